"""passproven.languages: the promises B18 and B19, and the example of the interface."""

import unittest

from building import addr, mapping, meta, name, node, num
from passproven.constructors import BadConstructor, BadLanguage
from passproven.errors import BadTerm, TooDeep, TooLong
from passproven.languages import BadRule, Language, read_language
from passproven.ruling import first_rule

CONSTRUCTORS = [("num", 1, "value", [0]), ("add", 2, "plain", [0, 1]), ("stop", 0, "plain", []), ("box", 1, "value", [])]


def rule(word="r", pattern="(add $x $y)", conditions=(), action="", result="0"):
    return (word, pattern, conditions, action, result)


def read(**parts):
    return read_language(CONSTRUCTORS, [rule(**parts)]).rules[0]


def error_of(rules, constructors=CONSTRUCTORS):
    """The class of the error, and its number and reason, its reason or its position."""
    try:
        read_language(constructors, rules)
    except (BadConstructor, BadRule) as error:
        return (error.__class__, error.number, error.reason)
    except BadLanguage as error:
        return (BadLanguage, error.reason)
    except (BadTerm, TooDeep) as error:
        return (error.__class__, error.position)
    except TooLong:
        return (TooLong,)
    return None


class Example(unittest.TestCase):
    CONSTRUCTORS = [("num", 1, "value", [0]), ("add", 2, "plain", [0, 1])]
    CONDITIONS = ["(integer $x)", "(integer $y)"]

    def rule(self, conditions):
        return ("sum", "(add (num $x) (num $y))", conditions, "", "(num (plus $x $y))")

    def test_example(self):
        language = read_language(self.CONSTRUCTORS, [self.rule(self.CONDITIONS)])
        self.assertIsInstance(language, Language)
        self.assertEqual(language.known(), (("sum", (("x", "integer"), ("y", "integer"))),))
        term = node("add", node("num", num(1)), node("num", name("a")))
        self.assertIsNone(first_rule(language, term))
        term = node("add", node("num", num(1)), node("num", num(2)))
        self.assertEqual(first_rule(language, term), (language.rules[0], {"x": num(1), "y": num(2)}))

    def test_without_its_conditions(self):
        self.assertEqual(error_of([self.rule([])], self.CONSTRUCTORS), (BadRule, 0, "undefined"))


class Reading(unittest.TestCase):
    """B18"""

    def test_rules(self):
        self.assertEqual(read(), ("r", node("add", meta("x"), meta("y")), (), None, num(0)))
        self.assertEqual(
            read(word="other", pattern="(add(num $x)'a)", conditions=["(integer $x)", "(not (less $x 2))"], action="(put $x)",
                 result="{'b $x 'a (num 1)}"),
            ("other", node("add", node("num", meta("x")), name("a")), (("integer", "x"), ("not", ("less", meta("x"), num(2)))),
             ("put", meta("x")), mapping(a=node("num", num(1)), b=meta("x"))),
        )

    def test_conditions(self):
        texts = ["(less (plus $x 2) $y)", "(has $x 'a)", "(has $x $y)", "(equal @1 $y)"]
        wanted = (("less", ("sum", "x", 2), meta("y")), ("has", "x", name("a")), ("has", "x", meta("y")), ("equal", addr(1), meta("y")))
        self.assertEqual(read(conditions=texts)[2], wanted)
        self.assertEqual(read(conditions=tuple(texts))[2], wanted)

    def test_forms(self):
        conditions = ["(integer $x)", "(has $y 'a)"]
        for text, form in (
            ("(plus $x 1)", ("plus", meta("x"), num(1))), ("(minus 1 (plus $x $x))", ("minus", num(1), ("plus", meta("x"), meta("x")))),
            ("(get $y 'a)", ("get", meta("y"), name("a"))), ("(set $y 'b (get $y 'a))", ("set", meta("y"), name("b"), ("get", meta("y"), name("a")))),
            ("(num (plus $x 1))", node("num", ("plus", meta("x"), num(1)))), ("{'a (plus $x 1)}", mapping(a=("plus", meta("x"), num(1)))),
            ("(set {} 'a {'b (box (minus 1 2))})", ("set", ("map", ()), name("a"), mapping(b=node("box", ("minus", num(1), num(2)))))),
            ("stop", node("stop")), ("(stop)", node("stop")), ("@3", addr(3)), ("'get", name("get")), ("(box 'plus)", node("box", name("plus"))),
        ):
            self.assertEqual(read(conditions=conditions, result=text)[4], form)

    def test_actions(self):
        conditions = ["(address $x)", "(has $y 'a)"]
        for text, action in (
            ("", None), ("(new $y $a)", ("new", meta("y"), "a")), ("(new (num (plus 1 2)) $a)", ("new", node("num", ("plus", num(1), num(2))), "a")),
            (" ( read $x $a ) ", ("read", meta("x"), "a")), ("(read @4 $a)", ("read", addr(4), "a")),
            ("(write $x (get $y 'a))", ("write", meta("x"), ("get", meta("y"), name("a")))),
            ("(write @0 {'a (set $y 'b 1)})", ("write", addr(0), mapping(a=("set", meta("y"), name("b"), num(1))))),
            ("(put (minus 1 2))", ("put", ("minus", num(1), num(2)))), ("(put 5)", ("put", num(5))),
            ("(new 'put $new)", ("new", name("put"), "new")), ("(write $x (box 'read))", ("write", meta("x"), node("box", name("read")))),
        ):
            self.assertEqual(read(conditions=conditions, action=text)[3], action)

    def test_new_metavariables_in_results(self):
        self.assertEqual(read(action="(new 1 $a)", result="(box $a)")[3:], (("new", num(1), "a"), node("box", meta("a"))))

    def test_result_forms_stand_not_in_patterns(self):
        for word in ("get", "set", "plus", "minus", "new", "put"):
            self.assertEqual(error_of([rule(pattern=f"(add 1 ({word} 1 2))")]), (BadTerm, 8))

    def test_actions_stand_not_in_results(self):
        for word in ("new", "read", "write", "put"):
            self.assertEqual(error_of([rule(result=f"(box ({word} 1 2))")]), (BadTerm, 6))
        self.assertEqual(error_of([rule(result="(put 1)")]), (BadTerm, 1))

    def test_texts_that_are_no_conditions(self):
        for text in ("1", "$x", "(plus $x 1)", "(has $x 1)", "(not (not (map $x)))", "(less (plus $x 0) 1)", "(integer 5)"):
            self.assertEqual(error_of([rule("good"), rule(conditions=["(map $x)", text])]), (BadRule, 1, "condition"), text)

    def test_texts_that_are_no_actions(self):
        for text in ("1", "$x", "'a", "'new", "$put", "stop", "(box 1)", "(plus 1 2)", "{}", "(get $x 'a)", "(new 1 2)", "(new $a 'b)", "(new 1 (box $a))",
                     "(new 1 stop)", "(read @1 'a)", "(read @1 2)", "(put (put 1))", "(put (box (new 1 $a)))", "(write @1 (read @1 $a))",
                     "(new {'a (put 1)} $a)", "(box (put 1))", "(new (write @1 2) $a)", "(new 1 (put 2))", "(put (plus 1 (put 1)))"):
            self.assertEqual(error_of([rule("good"), rule(action=text)]), (BadRule, 1, "action"), text)

    def test_addresses_of_actions(self):
        for text in ("(read 1 $a)", "(read 'a $b)", "(write (box 1) 1)", "(write {} 1)", "(read (plus 1 2) $a)"):
            self.assertEqual(error_of([rule(action=text)]), (BadRule, 0, "action"), text)

    def test_arguments_stay(self):
        conditions = ["(map $x)"]
        rules = [rule(conditions=conditions)]
        constructors = list(CONSTRUCTORS)
        language = read_language(constructors, rules)
        self.assertEqual(conditions, ["(map $x)"])
        self.assertEqual(rules, [rule(conditions=["(map $x)"])])
        self.assertEqual(constructors, CONSTRUCTORS)
        conditions.clear()
        rules.clear()
        constructors.clear()
        self.assertEqual(language.rules[0][2], (("map", "x"),))
        self.assertEqual(len(language.constructors), 4)


class Errors(unittest.TestCase):
    """B19"""

    def test_constructors_come_first(self):
        bad = [rule(pattern="?")]
        self.assertEqual(error_of(bad, []), (BadLanguage, "constructors"))
        self.assertEqual(error_of(bad, [("get", 0, "value", [])]), (BadConstructor, 0, "name"))
        self.assertEqual(error_of(bad, CONSTRUCTORS + CONSTRUCTORS[:1]), (BadConstructor, 4, "double"))

    def test_texts_in_order(self):
        texts = {"pattern": "?", "conditions": ["(map $x)", " ?"], "action": "  ?", "result": "   ?"}
        self.assertEqual(error_of([rule(**texts)]), (BadTerm, 0))
        texts["pattern"] = "stop"
        self.assertEqual(error_of([rule(**texts)]), (BadTerm, 1))
        texts["conditions"] = ["(map $x)", "1", " ?"]
        self.assertEqual(error_of([rule(**texts)]), (BadRule, 0, "condition"))
        texts["conditions"] = []
        self.assertEqual(error_of([rule(**texts)]), (BadTerm, 2))
        texts["action"] = "stop"
        self.assertEqual(error_of([rule(**texts)]), (BadRule, 0, "action"))
        texts["action"] = "(put (put 1))"
        self.assertEqual(error_of([rule(**texts)]), (BadRule, 0, "action"))
        texts["action"] = ""
        self.assertEqual(error_of([rule(**texts)]), (BadTerm, 3))

    def test_rules_in_order(self):
        self.assertEqual(error_of([rule(result=" ?"), rule(pattern="?")]), (BadTerm, 1))
        self.assertEqual(error_of([rule(), rule(action="1"), rule(pattern="?")]), (BadRule, 1, "action"))
        self.assertEqual(error_of([rule(), rule(), rule(conditions=["1"])]), (BadRule, 2, "condition"))

    def test_texts_come_before_the_rules(self):
        wrong = rule("1", pattern="5", conditions=["(map $x)"] * 9, action="(put $other)", result="$other")
        self.assertEqual(error_of([wrong]), (BadRule, 0, "name"))
        self.assertEqual(error_of([wrong, rule(result="?")]), (BadTerm, 0))
        self.assertEqual(error_of([wrong, rule(action="1")]), (BadRule, 1, "action"))
        self.assertEqual(error_of([wrong, rule(action="(new (put 1) $a)")]), (BadRule, 1, "action"))
        self.assertEqual(error_of([wrong] * 61), (BadLanguage, "rules"))
        self.assertEqual(error_of([wrong] * 61 + [rule(conditions=["1"])]), (BadRule, 61, "condition"))
        self.assertEqual(error_of([rule(conditions=["(map $x)"] * 9 + ["?"])]), (BadTerm, 0))

    def test_errors_of_texts(self):
        deep = "(box " * 61
        self.assertEqual(error_of([rule(pattern=deep)]), (TooDeep, 300))
        self.assertEqual(error_of([rule(result=deep)]), (TooDeep, 300))
        self.assertEqual(error_of([rule(action=deep)]), (TooDeep, 300))
        self.assertEqual(error_of([rule(conditions=["(not " * 61])]), (TooDeep, 300))
        for part in ("pattern", "action", "result"):
            self.assertEqual(error_of([rule(**{part: " " * 4001})]), (TooLong,))
            self.assertEqual(error_of([rule(**{part: " "})]), (BadTerm, 1))
        self.assertEqual(error_of([rule(conditions=[" " * 4001])]), (TooLong,))
        self.assertEqual(error_of([rule(conditions=[""])]), (BadTerm, 0))
        self.assertEqual(error_of([rule(pattern="")]), (BadTerm, 0))
        self.assertEqual(error_of([rule(result="")]), (BadTerm, 0))

    def test_then_the_rules_are_checked(self):
        self.assertEqual(error_of([rule(pattern="$x")]), (BadRule, 0, "pattern"))
        self.assertEqual(error_of([rule(pattern="(add {} 1)")]), (BadRule, 0, "pattern"))
        self.assertEqual(error_of([rule(pattern="(add $x $x)")]), (BadRule, 0, "pattern"))
        self.assertEqual(error_of([rule(conditions=["(map $z)"])]), (BadRule, 0, "condition"))
        self.assertEqual(error_of([rule(pattern="(add (box $x) $y)", conditions=["(map $x)"])]), (BadRule, 0, "unsure"))
        self.assertEqual(error_of([rule(action="(new 1 $x)")]), (BadRule, 0, "action"))
        self.assertEqual(error_of([rule(action="(new stop $a)")]), (BadRule, 0, "undefined"))
        self.assertEqual(error_of([rule(result="$z")]), (BadRule, 0, "result"))
        self.assertEqual(error_of([rule(result="(plus $x 1)")]), (BadRule, 0, "undefined"))
        self.assertEqual(error_of([rule(), rule()]), (BadRule, 1, "double"))
        self.assertEqual(error_of([rule(result="(box " * 12 + "1" + ")" * 12)]), None)
        self.assertEqual(error_of([rule(result="(box " * 13 + "1" + ")" * 13)]), (BadRule, 0, "result"))


if __name__ == "__main__":
    unittest.main()
