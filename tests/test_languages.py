"""passproven.languages: the promises B4 to B9 and B14 to B16."""

import unittest

from building import addr, chain, mapping, meta, name, node, num
from passproven.constructors import BadConstructor, BadLanguage
from passproven.errors import PassError
from passproven.languages import BadRule, Language

CONSTRUCTORS = (
    ("num", 1, "value", [0]),
    ("v", 2, "value", [1, 0]),
    ("half", 2, "value", [1]),
    ("box", 1, "value", []),
    ("s", 1, "value", [0]),
    ("six", 6, "value", []),
    ("q", 1, "plain", [0]),
    ("p", 3, "plain", [2, 0]),
    ("stop", 0, "plain", []),
)
PATTERN = node("p", meta("x"), meta("z"), node("v", meta("y"), num(1)))
UNSURE = ("integer", "z")
NONE = ("integer", "other")


def rule(word="r", pattern=PATTERN, conditions=(), action=None, result=num(0)):
    return (word, pattern, conditions, action, result)


def error_of(rules, constructors=CONSTRUCTORS):
    """What Language raises: None, a reason, or the class, a number and a reason."""
    try:
        Language(constructors, rules)
    except BadLanguage as error:
        return error.reason
    except (BadConstructor, BadRule) as error:
        return (error.__class__, error.number, error.reason)
    return None


class Case(unittest.TestCase):
    def right(self, **parts):
        self.assertIsNone(error_of([rule(**parts)]), parts)

    def wrong(self, reason, **parts):
        good = rule("good")
        self.assertEqual(error_of([good, rule(**parts), good]), (BadRule, 1, reason), parts)


class Names(Case):
    """B4"""

    def test_names(self):
        for word in ("a", "abcdefghijkl", "get", "new", "x", "p"):
            self.right(word=word)
        for word in ("", "1", "_a", "A", "a" * 13, "a b", "a-b"):
            self.wrong("name", word=word)


class Patterns(Case):
    """B4, B5"""

    def test_right_patterns(self):
        for pattern in (
            node("stop"), node("q", meta("x")), node("q", num(10 ** 30)), node("q", name("a")), node("q", addr(0)),
            node("p", num(1), node("p", num(1), node("stop"), node("stop")), num(1)), node("p", num(1), node("stop"), num(1)),
            node("q", node("half", node("stop"), meta("x"))), node("q", node("box", node("q", node("stop")))),
            node("q", node("v", meta("x"), meta("y"))),
        ):
            self.right(pattern=pattern)

    def test_height(self):
        self.right(pattern=node("q", chain(11, meta("x"))))
        self.wrong("pattern", pattern=node("q", chain(12, meta("x"))))
        self.right(pattern=node("p", num(1), chain(11), num(1)))
        self.wrong("pattern", pattern=node("p", num(1), chain(12), num(1)))

    def test_constructors(self):
        for pattern in (
            node("other"), node("q", node("other")), node("q"), node("q", num(1), num(2)), node("stop", num(1)),
            node("p", num(1), node("other"), num(1)), node("q", node("s")), node("q", node("box", node("s", num(1), num(2)))),
        ):
            self.wrong("pattern", pattern=pattern)

    def test_words_and_addresses(self):
        for part in (name(""), name("1a"), name("A"), name("a" * 13), meta("_x"), meta("X"), meta(""), meta("x" * 13), addr(-1)):
            self.wrong("pattern", pattern=node("q", part))
            self.wrong("pattern", pattern=node("q", node("box", node("box", part))))

    def test_maps(self):
        for part in (("map", ()), mapping(a=num(1))):
            self.wrong("pattern", pattern=part)
            self.wrong("pattern", pattern=node("q", part))
            self.wrong("pattern", pattern=node("p", num(1), node("box", part), num(1)))

    def test_metavariables_stand_once(self):
        self.wrong("pattern", pattern=node("p", meta("x"), meta("x"), num(1)))
        self.wrong("pattern", pattern=node("p", meta("x"), num(1), node("s", meta("x"))))
        self.right(pattern=node("p", meta("x"), name("x"), name("x")))

    def test_root(self):
        for pattern in (num(1), name("a"), addr(1), meta("x"), node("num", num(1)), node("box", node("stop"))):
            self.wrong("pattern", pattern=pattern)

    def test_nodes_at_strict_places(self):
        for pattern in (
            node("q", node("stop")), node("q", node("q", num(1))), node("p", num(1), num(1), node("stop")),
            node("p", node("stop"), num(1), num(1)), node("q", node("s", node("stop"))),
            node("q", node("v", num(1), node("stop"))), node("q", chain(10, node("stop"))),
            node("q", node("half", num(1), node("q", num(1)))),
        ):
            self.wrong("pattern", pattern=pattern)

    def test_result_forms(self):
        for form in (("plus", num(1), num(1)), ("minus", num(1), num(1)), ("get", meta("x"), name("a")),
                     ("set", meta("x"), name("a"), num(1))):
            self.wrong("pattern", pattern=form)
            self.wrong("pattern", pattern=node("q", form))
            self.wrong("pattern", pattern=node("q", node("box", form)))


class Conditions(Case):
    """B6"""

    RIGHT = (
        ("integer", "x"), ("name", "x"), ("address", "y"), ("map", "x"), ("equal", meta("x"), meta("y")),
        ("equal", num(1), name("a")), ("less", addr(1), num(10 ** 20)), ("less", ("sum", "x", -1), ("sum", "y", 10 ** 20)),
        ("equal", ("sum", "x", 1), addr(0)), ("has", "x", name("other")), ("has", "x", meta("y")), ("has", "x", meta("x")),
        ("less", meta("x"), meta("x")),
    )
    NO_CONDITIONS = (
        ("integer", "other"), ("equal", meta("x"), meta("other")), ("less", ("sum", "other", 1), num(1)),
        ("has", "other", name("a")), ("has", "x", meta("other")), ("has", "x", num(1)), ("has", "x", addr(1)),
        ("has", "x", node("stop")), ("has", "x", ("sum", "y", 1)), ("equal", meta("x"), ("map", ())),
        ("equal", node("stop"), meta("x")), ("less", ("plus", meta("x"), num(1)), num(1)), ("less", ("sum", "x", 0), num(1)),
        ("equal", ("map", ()), meta("x")),
        ("other", "x"), ("value", "x"), ("node", "x"), ("int", "x"), ("greater", meta("x"), meta("y")),
    )

    def test_right_conditions(self):
        for condition in self.RIGHT:
            self.right(conditions=[condition])
            self.right(conditions=(("not", condition),))

    def test_other_things(self):
        for condition in self.NO_CONDITIONS:
            self.wrong("condition", conditions=[condition])
            self.wrong("condition", conditions=[("not", condition)])
            self.wrong("condition", conditions=[("integer", "x"), condition, UNSURE])

    def test_double_not(self):
        self.wrong("condition", conditions=[("not", ("not", ("integer", "x")))])

    def test_number(self):
        self.right(conditions=[("integer", "x")] * 8)
        self.right(conditions=(("integer", "x"),) * 8)
        self.wrong("condition", conditions=[("integer", "x")] * 9)
        self.wrong("condition", conditions=[UNSURE] + [("integer", "x")] * 8)
        self.wrong("unsure", conditions=[UNSURE] + [("integer", "x")] * 7)

    def test_unsure(self):
        for condition in (
            UNSURE, ("not", UNSURE), ("map", "z"), ("equal", meta("z"), num(1)), ("equal", meta("x"), meta("z")),
            ("less", num(1), ("sum", "z", 1)), ("has", "z", name("a")), ("has", "x", meta("z")),
        ):
            self.wrong("unsure", conditions=[condition])
            self.wrong("unsure", conditions=[("integer", "x"), condition])

    def test_sure_places(self):
        inner = node("v", meta("a"), node("half", meta("b"), meta("c")))
        pattern = node("p", inner, node("s", meta("d")), node("box", meta("e")))
        for word in ("a", "c"):
            self.right(pattern=pattern, conditions=[("integer", word)])
        for word in ("b", "d", "e"):
            self.wrong("unsure", pattern=pattern, conditions=[("integer", word)])

    def test_order(self):
        self.wrong("unsure", conditions=[UNSURE, NONE])
        self.wrong("condition", conditions=[NONE, UNSURE])
        self.wrong("condition", conditions=[("equal", meta("z"), meta("other"))])
        self.wrong("condition", conditions=[("equal", meta("z"), ("map", ()))])

    def test_new_metavariables_are_in_no_condition(self):
        self.wrong("condition", conditions=[("integer", "a")], action=("read", addr(1), "a"))


class Actions(Case):
    """B8, B14"""

    ADDRESS = (("address", "x"),)

    def test_right_actions(self):
        for action in (
            None, ("new", num(1), "a"), ("new", meta("x"), "a"), ("new", node("box", meta("z")), "a"), ("new", mapping(a=meta("y")), "a"),
            ("read", addr(0), "a"), ("read", meta("x"), "a"), ("write", addr(5), meta("y")), ("write", meta("x"), num(1)),
            ("put", num(1)), ("put", ("plus", num(1), num(2))), ("write", meta("x"), meta("x")), ("new", ("map", ()), "z1"),
        ):
            self.right(action=action, conditions=self.ADDRESS)

    def test_other_things(self):
        for action in (
            ("other", num(1), "a"), ("get", num(1), "a"), ("none",), ("new", num(1), "x"), ("new", num(1), "z"),
            ("new", num(1), "A"), ("new", num(1), ""), ("new", num(1), "a" * 13), ("new", meta("a"), "a"), ("new", meta("b"), "a"),
            ("new", node("other"), "a"), ("new", node("s"), "a"), ("new", name("A"), "a"), ("new", addr(-1), "a"),
            ("read", num(1), "a"), ("read", name("x"), "a"), ("read", node("stop"), "a"), ("read", ("map", ()), "a"),
            ("read", ("get", meta("x"), name("k")), "a"), ("read", ("plus", num(1), num(1)), "a"), ("read", addr(-1), "a"),
            ("read", meta("b"), "a"), ("read", meta("a"), "a"), ("read", addr(1), "x"), ("read", addr(1), "1"),
            ("write", num(1), num(1)), ("write", meta("b"), num(1)), ("write", addr(-1), num(1)), ("write", addr(1), meta("b")),
            ("write", addr(1), node("other")), ("write", node("s", addr(1)), num(1)), ("put", meta("b")), ("put", node("other")),
            ("put", name("A")), ("put", ("map", (("b", num(1)), ("a", num(1))))), ("put", ("map", (("a", num(1)), ("a", num(1))))),
            ("put", ("map", (("A", num(1)),))), ("put", meta("X")),
        ):
            self.wrong("action", action=action, conditions=self.ADDRESS)

    def test_height(self):
        self.right(action=("new", chain(12), "a"))
        self.wrong("action", action=("new", chain(13), "a"))
        self.right(action=("write", addr(1), chain(12)))
        self.wrong("action", action=("write", addr(1), chain(13)))
        high = num(1)
        for _ in range(12):
            high = ("plus", high, num(1))
        self.right(action=("put", high))
        self.wrong("action", action=("put", ("plus", num(1), high)))

    def test_undefined_values(self):
        for form in (meta("z"), node("stop"), node("s", meta("z")), node("v", num(1), meta("z"))):
            self.wrong("undefined", action=("new", form, "a"))
            self.wrong("undefined", action=("write", addr(1), form))
        for form in (("plus", meta("x"), num(1)), ("get", meta("x"), name("k")), ("set", meta("x"), name("k"), num(1)),
                     mapping(a=meta("z")), node("box", ("plus", meta("x"), num(1)))):
            self.wrong("undefined", action=("new", form, "a"))
            self.wrong("undefined", action=("write", addr(1), form))

    def test_undefined_outputs(self):
        for form in (meta("x"), name("a"), addr(1), ("map", ()), node("num", num(1)), meta("z"), ("plus", meta("x"), num(1)),
                     ("get", meta("x"), name("k"))):
            self.wrong("undefined", action=("put", form))
        self.right(action=("put", meta("x")), conditions=[("integer", "x")])
        self.right(action=("put", ("plus", meta("x"), num(1))), conditions=[("less", num(0), meta("x"))])
        self.wrong("undefined", action=("put", meta("x")), conditions=[("equal", num(0), meta("x"))])
        self.wrong("undefined", action=("put", ("get", meta("x"), name("k"))), conditions=[("has", "x", name("k"))])

    def test_undefined_addresses(self):
        for conditions in ((), [("integer", "x")], [("not", ("address", "x"))], [("address", "y")], [("address", "x"), ("name", "x")]):
            self.wrong("undefined", action=("read", meta("x"), "a"), conditions=conditions)
            self.wrong("undefined", action=("write", meta("x"), num(1)), conditions=conditions)
        self.wrong("undefined", action=("read", meta("z"), "a"))

    def test_defined_by_conditions(self):
        has = [("has", "x", name("k")), ("has", "x", meta("y"))]
        for key in (name("k"), meta("y")):
            self.right(action=("new", ("get", meta("x"), key), "a"), conditions=has)
            self.right(action=("write", addr(1), ("set", meta("x"), key, ("get", meta("x"), key))), conditions=has)
            self.wrong("undefined", action=("new", ("get", meta("x"), key), "a"), conditions=[("not", each) for each in has])
            self.wrong("undefined", action=("new", ("get", meta("x"), key), "a"), conditions=[("map", "x"), ("name", "y")])


class Results(Case):
    """B9, B13"""

    def test_right_results(self):
        for result in (
            num(1), name("other"), addr(3), meta("x"), meta("z"), node("stop"), node("s", meta("z")), ("map", ()), mapping(a=meta("x")),
            node("p", meta("z"), meta("z"), mapping(a=node("box", meta("z")))), ("plus", num(1), ("minus", num(1), num(2))),
            ("set", ("map", ()), name("k"), meta("x")), node("q", ("set", mapping(k=num(1)), name("k"), num(2))),
        ):
            self.right(result=result)

    def test_other_things(self):
        for result in (
            meta("other"), node("s", meta("other")), meta("X"), name("X"), addr(-1), node("other"), node("s"), node("stop", num(1)),
            ("map", (("b", num(1)), ("a", num(1)))), ("map", (("a", num(1)), ("a", num(1)))), ("map", (("A", num(1)),)),
            ("map", (("a", num(1)), ("c", num(1)), ("b", num(1)))), mapping(a=node("other")), mapping(a=meta("other")),
            ("plus", num(1), meta("other")), ("get", meta("other"), name("a")), ("set", ("map", ()), name("A"), num(1)),
            node("new", num(1)), node("box", ("map", (("b", num(1)), ("a", num(1))))),
        ):
            self.wrong("result", result=result)

    def test_height(self):
        self.right(result=chain(12, meta("x")))
        self.wrong("result", result=chain(13, meta("x")))
        high = ("map", ())
        for _ in range(11):
            high = mapping(a=high)
        self.right(result=("set", high, name("a"), num(1)))
        self.wrong("result", result=("set", mapping(a=high), name("a"), num(1)))
        self.right(result=mapping(a=high))
        self.wrong("result", result=mapping(a=mapping(a=high)))

    def test_new_metavariables(self):
        self.right(action=("new", num(1), "a"), result=node("s", meta("a")))
        self.right(action=("read", addr(1), "a"), result=node("v", meta("x"), meta("a")))
        self.wrong("result", result=meta("a"))
        self.wrong("result", action=("put", num(1)), result=meta("a"))
        self.wrong("result", action=("write", addr(1), num(1)), result=meta("a"))
        self.wrong("result", action=("new", num(1), "a"), result=meta("b"))
        self.right(action=("new", num(1), "a"), result=mapping(k=meta("a")))
        self.right(action=("read", addr(1), "a"), result=mapping(k=meta("a")))
        self.wrong("undefined", action=("new", num(1), "a"), result=("plus", meta("a"), num(1)))
        self.wrong("undefined", action=("read", addr(1), "a"), result=("plus", meta("a"), num(1)))
        self.wrong("undefined", action=("read", addr(1), "a"), result=("set", meta("a"), name("k"), num(1)))

    def test_undefined(self):
        for result in (
            ("plus", meta("x"), num(1)), ("minus", num(1), meta("y")), ("get", meta("x"), name("k")), ("set", meta("x"), name("k"), num(1)),
            ("set", ("map", ()), meta("x"), num(1)), ("set", ("map", ()), name("k"), meta("z")), ("set", ("map", ()), name("k"), node("stop")),
            mapping(a=meta("z")), mapping(a=node("stop")), node("box", ("plus", meta("x"), num(1))), ("get", mapping(a=num(1)), name("a")),
            node("p", num(1), mapping(a=node("s", meta("z"))), num(1)), ("plus", name("a"), num(1)),
        ):
            self.wrong("undefined", result=result)

    def test_defined_by_conditions(self):
        self.right(result=("plus", meta("x"), meta("y")), conditions=[("less", meta("x"), meta("y"))])
        self.right(result=("get", meta("x"), name("k")), conditions=[("has", "x", name("k"))])
        self.wrong("undefined", result=("get", meta("x"), name("l")), conditions=[("has", "x", name("k"))])
        self.right(result=("set", meta("x"), meta("y"), num(1)), conditions=[("map", "x"), ("name", "y")])
        self.right(result=("set", meta("x"), meta("y"), num(1)), conditions=[("has", "x", meta("y"))])
        self.wrong("undefined", result=("set", meta("x"), meta("y"), num(1)), conditions=[("map", "x"), ("map", "y")])
        self.wrong("undefined", result=("plus", meta("x"), num(1)), conditions=[("not", ("integer", "x"))])


class Languages(unittest.TestCase):
    """B15, B16"""

    def test_bases(self):
        self.assertTrue(issubclass(BadRule, PassError))
        self.assertFalse(issubclass(BadRule, BadConstructor))

    def test_constructors_come_first(self):
        bad = [rule("1")] * 61
        self.assertEqual(error_of(bad, []), "constructors")
        self.assertEqual(error_of(bad, CONSTRUCTORS * 5), "constructors")
        self.assertEqual(error_of(bad, [("get", 0, "value", [])]), (BadConstructor, 0, "name"))
        self.assertEqual(error_of(bad, [("a", 0, "value", [])] * 2), (BadConstructor, 1, "double"))

    def test_number_of_rules(self):
        self.assertIsNone(error_of([]))
        self.assertIsNone(error_of(()))
        self.assertIsNone(error_of([rule(f"r{at}") for at in range(60)]))
        self.assertIsNone(error_of(tuple(rule(f"r{at}") for at in range(60))))
        self.assertEqual(error_of([rule(f"r{at}") for at in range(61)]), "rules")
        self.assertEqual(error_of([rule("1")] * 61), "rules")

    def test_forty_constructors(self):
        many = [(f"c{at}", 6, "plain", [5, 0]) for at in range(40)]
        pattern = node("c39", *[meta(f"x{at}") for at in range(6)])
        self.assertIsNone(error_of([rule(pattern=pattern, conditions=[("integer", "x0"), ("map", "x5")])], many))
        self.assertEqual(error_of([rule(pattern=pattern, conditions=[("integer", "x1")])], many), (BadRule, 0, "unsure"))

    def test_order_of_the_reasons(self):
        wrong = {"pattern": num(1), "conditions": [UNSURE], "action": ("other",), "result": meta("other")}
        self.assertEqual(error_of([rule("1", **wrong)]), (BadRule, 0, "name"))
        self.assertEqual(error_of([rule(**wrong)]), (BadRule, 0, "pattern"))
        wrong["pattern"] = PATTERN
        self.assertEqual(error_of([rule(**wrong)]), (BadRule, 0, "unsure"))
        wrong["conditions"] = [NONE]
        self.assertEqual(error_of([rule(**wrong)]), (BadRule, 0, "condition"))
        wrong["conditions"] = []
        self.assertEqual(error_of([rule(**wrong)]), (BadRule, 0, "action"))
        wrong["action"] = ("put", name("a"))
        self.assertEqual(error_of([rule(**wrong)]), (BadRule, 0, "undefined"))
        wrong["action"] = ("put", num(1))
        self.assertEqual(error_of([rule(**wrong)]), (BadRule, 0, "result"))
        wrong["result"] = ("plus", meta("x"), num(1))
        self.assertEqual(error_of([rule(**wrong)]), (BadRule, 0, "undefined"))
        self.assertEqual(error_of([rule(action=("put", meta("z")), result=meta("other"))]), (BadRule, 0, "undefined"))
        self.assertEqual(error_of([rule(result=node("s", ("plus", meta("x"), meta("other"))))]), (BadRule, 0, "result"))
        self.assertEqual(error_of([rule(action=("new", ("plus", meta("x"), meta("other")), "a"))]), (BadRule, 0, "action"))

    def test_order_of_the_rules(self):
        late, early = rule("late", result=meta("other")), rule("1")
        self.assertEqual(error_of([rule("a"), late, early]), (BadRule, 1, "result"))
        self.assertEqual(error_of([rule("a"), early, late]), (BadRule, 1, "name"))
        self.assertEqual(error_of([rule(f"r{at}") for at in range(59)] + [early]), (BadRule, 59, "name"))

    def test_double(self):
        one, other = rule("a"), rule("b")
        self.assertEqual(error_of([one, one]), (BadRule, 1, "double"))
        self.assertEqual(error_of([one, other, rule("a", node("stop"))]), (BadRule, 2, "double"))
        self.assertEqual(error_of([one, other, other, one]), (BadRule, 2, "double"))
        self.assertEqual(error_of([one, one, rule("1")]), (BadRule, 2, "name"))
        self.assertEqual(error_of([one, one, rule("c", result=meta("other"))]), (BadRule, 2, "result"))


class Attributes(unittest.TestCase):
    """B15, and what a language answers"""

    def setUp(self):
        self.strict, self.conditions = [1, 0], [("integer", "x"), ("map", "y")]
        self.constructors = [("add", 2, "plain", self.strict), ("unit", 0, "value", ())]
        self.pattern = node("add", meta("x"), meta("y"))
        self.rules = [("r", self.pattern, self.conditions, ("put", meta("x")), meta("y"))]
        self.language = Language(self.constructors, self.rules)

    def check(self):
        self.assertEqual(self.language.constructors, (("add", 2, "plain", (1, 0)), ("unit", 0, "value", ())))
        self.assertEqual(
            self.language.rules,
            (("r", self.pattern, (("integer", "x"), ("map", "y")), ("put", meta("x")), meta("y")),),
        )
        self.assertEqual(self.language.known(), (("r", (("x", "integer"), ("y", "map"))),))
        self.assertEqual(self.language.constructor("add"), ("add", 2, "plain", (1, 0)))

    def test_attributes_are_tuples(self):
        self.check()
        hash(self.language.constructors)
        hash(self.language.rules)
        hash(self.language.known())
        hash(self.language.constructor("add"))

    def test_later_changes(self):
        self.strict.append(5)
        self.conditions.clear()
        self.constructors.append(("more", 0, "value", []))
        self.rules.pop()
        self.check()

    def test_arguments_stay(self):
        self.assertEqual(self.strict, [1, 0])
        self.assertEqual(self.constructors, [("add", 2, "plain", [1, 0]), ("unit", 0, "value", ())])
        self.assertEqual(self.rules, [("r", self.pattern, [("integer", "x"), ("map", "y")], ("put", meta("x")), meta("y"))])

    def test_constructor(self):
        self.assertEqual(self.language.constructor("unit"), ("unit", 0, "value", ()))
        for word in ("other", "get", "", "x"):
            self.assertRaises(KeyError, self.language.constructor, word)

    def test_known(self):
        stop = ("stop", 0, "plain", [])
        box = ("box", 2, "plain", [0])
        pattern = node("box", meta("x"), meta("y"))
        language = Language([stop, box], [
            ("b", pattern, [("address", "x")], ("read", meta("x"), "c"), num(1)),
            ("a", node("stop"), [], ("new", num(1), "p"), num(1)),
            ("c", node("stop"), [], None, num(1)),
        ])
        self.assertEqual(language.known(), (
            ("b", (("x", "address"), ("y", "any"), ("c", "value"))), ("a", (("p", "address"),)), ("c", ()),
        ))
        self.assertEqual(Language([stop], []).known(), ())
        self.assertEqual(Language([stop], []).rules, ())

    def test_lists_and_tuples_give_the_same(self):
        other = Language(tuple(self.constructors), tuple(self.rules))
        self.assertEqual(other.constructors, self.language.constructors)
        self.assertEqual(other.rules, self.language.rules)


if __name__ == "__main__":
    unittest.main()
