"""passproven.ruling: the promises B10 and B17."""

import itertools
import unittest

from building import addr, chain, mapping, meta, name, node, num
from passproven.errors import PassError
from passproven.languages import Language
from passproven.ruling import Undefined, applied, first_rule, made

CONSTRUCTORS = [("num", 1, "value", [0]), ("box", 1, "value", []), ("s", 1, "value", [0]), ("add", 2, "plain", [0, 1]),
                ("at", 2, "plain", [0, 1]), ("stop", 0, "plain", [])]
BOTH = node("add", meta("x"), meta("y"))


class Made(unittest.TestCase):
    """B10"""

    def check(self, form, term, **bindings):
        self.assertEqual(made(form, bindings), term)

    def fails(self, form, **bindings):
        for around in (form, node("s", form), mapping(a=form), ("set", ("map", ()), name("k"), form)):
            self.assertRaises(Undefined, made, around, bindings)

    def test_undefined_is_an_error_of_the_package(self):
        self.assertTrue(issubclass(Undefined, PassError))

    def test_terms_stay(self):
        for term in (num(1), name("x"), addr(1), ("map", ()), mapping(a=num(1)), node("stop"), chain(12)):
            self.check(term, term, x=num(5))

    def test_metavariables(self):
        self.check(meta("x"), chain(60), x=chain(60))
        self.check(node("add", meta("x"), node("s", meta("y"))), node("add", num(1), node("s", num(2))), x=num(1), y=num(2))
        self.check(mapping(a=meta("x"), b=node("box", meta("x"))), mapping(a=num(1), b=node("box", num(1))), x=num(1))
        self.check(meta("x"), meta("y"), x=meta("y"), y=num(1))

    def test_plus_and_minus(self):
        self.check(("plus", num(5), num(7)), num(12))
        self.check(("minus", num(5), num(7)), num(-2))
        self.check(("minus", ("plus", meta("x"), num(1)), ("minus", num(1), meta("x"))), num(20), x=num(10))
        self.check(("plus", num(10 ** 30), meta("x")), num(10 ** 30 + 1), x=num(1))
        for head in ("plus", "minus"):
            for term in (name("a"), addr(1), ("map", ()), node("stop"), node("num", num(1))):
                self.fails((head, meta("x"), num(1)), x=term)
                self.fails((head, num(1), meta("x")), x=term)
                self.fails((head, num(1), (head, num(1), meta("x"))), x=term)

    def test_get(self):
        both = mapping(a=num(1), b=node("stop"))
        self.check(("get", meta("m"), name("a")), num(1), m=both)
        self.check(("get", meta("m"), meta("k")), node("stop"), m=both, k=name("b"))
        self.check(("get", both, name("b")), node("stop"))
        self.check(("get", ("get", meta("m"), name("a")), name("c")), num(5), m=mapping(a=mapping(c=num(5))))
        self.fails(("get", meta("m"), name("c")), m=both)
        self.fails(("get", ("map", ()), name("a")))
        for term in (num(1), name("a"), addr(1), node("stop")):
            self.fails(("get", term, name("a")))
        for term in (num(1), addr(1), both, node("a")):
            self.fails(("get", both, term))

    def test_set(self):
        both = mapping(b=num(1), d=num(2))
        self.check(("set", both, name("a"), num(5)), mapping(a=num(5), b=num(1), d=num(2)))
        self.check(("set", both, name("c"), num(5)), mapping(b=num(1), c=num(5), d=num(2)))
        self.check(("set", both, name("e"), num(5)), mapping(b=num(1), d=num(2), e=num(5)))
        self.check(("set", both, name("b"), num(5)), mapping(b=num(5), d=num(2)))
        self.check(("set", meta("m"), meta("k"), meta("x")), mapping(k=node("stop")), m=("map", ()), k=name("k"), x=node("stop"))
        self.check(("set", ("set", ("map", ()), name("b"), num(1)), name("a"), num(2)), mapping(a=num(2), b=num(1)))
        self.check(("set", ("set", ("map", ()), name("a"), num(1)), name("a"), num(2)), mapping(a=num(2)))
        self.check(("get", ("set", ("map", ()), name("a"), num(1)), name("a")), num(1))
        for term in (num(1), name("a"), addr(1), node("stop")):
            self.fails(("set", term, name("a"), num(1)))
        for term in (num(1), addr(1), both, node("stop")):
            self.fails(("set", both, term, num(1)))

    def test_forms_within_terms(self):
        self.check(node("num", ("plus", num(1), num(2))), node("num", num(3)))
        self.check(mapping(a=("plus", num(1), num(2))), mapping(a=num(3)))
        self.check(("set", ("map", ()), name("a"), ("plus", num(1), num(2))), mapping(a=num(3)))

    def test_terms_that_are_put_in_stay(self):
        self.check(node("box", meta("x")), node("box", meta("x")), x=meta("x"))

    def test_bindings_stay(self):
        bindings = {"m": mapping(a=num(1)), "x": num(2)}
        made(("set", meta("m"), name("b"), meta("x")), bindings)
        self.assertEqual(bindings, {"m": mapping(a=num(1)), "x": num(2)})


class Applied(unittest.TestCase):
    """B17"""

    def rule(self, *conditions, pattern=BOTH):
        return ("r", pattern, conditions, None, num(0))

    def test_without_conditions(self):
        self.assertEqual(applied(self.rule(), node("add", num(1), name("a"))), {"x": num(1), "y": name("a")})
        self.assertEqual(list(applied(self.rule(), node("add", num(1), num(2)))), ["x", "y"])
        self.assertEqual(applied(self.rule(pattern=node("stop")), node("stop")), {})

    def test_the_pattern_does_not_match(self):
        self.assertIsNone(applied(self.rule(), node("at", num(1), num(2))))
        self.assertIsNone(applied(self.rule(), num(1)))
        self.assertIsNone(applied(self.rule(pattern=node("add", num(1), meta("y"))), node("add", num(2), num(2))))

    def test_conditions(self):
        term = node("add", num(1), num(2))
        less, more = ("less", meta("x"), meta("y")), ("less", meta("y"), meta("x"))
        self.assertEqual(applied(self.rule(less), term), {"x": num(1), "y": num(2)})
        self.assertEqual(applied(self.rule(less, ("not", more), ("integer", "x")), term), {"x": num(1), "y": num(2)})
        for conditions in ((more,), (less, more), (more, less), (less, ("name", "x"), less), (("not", less),)):
            self.assertIsNone(applied(self.rule(*conditions), term))

    def test_conditions_may_be_a_list(self):
        rule = ("r", BOTH, [("integer", "x")], None, num(0))
        self.assertEqual(applied(rule, node("add", num(1), num(2))), {"x": num(1), "y": num(2)})
        self.assertIsNone(applied(rule, node("add", name("a"), num(2))))

    def test_answer_may_be_changed(self):
        rule, term = self.rule(), node("add", num(1), num(2))
        applied(rule, term).clear()
        self.assertEqual(applied(rule, term), {"x": num(1), "y": num(2)})


class First(unittest.TestCase):
    """B17"""

    def language(self, *rules):
        return Language(CONSTRUCTORS, [(f"r{at}",) + rule for at, rule in enumerate(rules)])

    def test_the_first_rule_that_applies(self):
        language = self.language(
            (node("at", meta("x"), meta("y")), [], None, num(0)),
            (BOTH, [("name", "x")], None, num(1)),
            (BOTH, [("integer", "x")], None, num(2)),
            (node("add", num(5), meta("z")), [], None, num(3)),
            (BOTH, [], None, num(4)),
        )
        for term, wanted in (
            (node("at", num(1), num(2)), 0), (node("add", name("a"), num(2)), 1), (node("add", num(5), num(2)), 2),
            (node("add", addr(5), num(2)), 4),
        ):
            rule, bindings = first_rule(language, term)
            self.assertEqual(rule, language.rules[wanted])
            self.assertEqual(bindings, {"x": term[2][0], "y": term[2][1]})

    def test_order_of_the_language(self):
        one, other = (BOTH, [], None, num(1)), (node("add", num(1), meta("z")), [], None, num(2))
        term = node("add", num(1), num(2))
        self.assertEqual(first_rule(self.language(one, other), term)[0][4], num(1))
        self.assertEqual(first_rule(self.language(other, one), term)[0][4], num(2))
        self.assertEqual(first_rule(self.language(other, one), term)[1], {"z": num(2)})
        self.assertEqual(first_rule(self.language(other, one), node("add", num(3), num(2)))[0][4], num(1))

    def test_no_rule(self):
        language = self.language((BOTH, [("integer", "x")], None, num(1)))
        for term in (num(1), node("stop"), node("add", name("a"), num(1)), ("map", ())):
            self.assertIsNone(first_rule(language, term))
        self.assertIsNone(first_rule(Language(CONSTRUCTORS, []), node("stop")))

    def test_the_answer_is_a_pair(self):
        language = self.language((node("stop"), [], None, num(1)))
        self.assertEqual(first_rule(language, node("stop")), (("r0", node("stop"), (), None, num(1)), {}))

    def test_answer_may_be_changed(self):
        language = self.language((BOTH, [], None, num(1)))
        term = node("add", num(1), num(2))
        first_rule(language, term)[1].clear()
        self.assertEqual(first_rule(language, term)[1], {"x": num(1), "y": num(2)})

    def test_what_a_rule_makes_is_a_term(self):
        conditions = [("has", "x", meta("y"))]
        language = self.language(
            (node("at", meta("x"), meta("y")), conditions, None, ("get", ("meta", "x"), ("meta", "y"))),
            (node("at", meta("x"), meta("y")), [("map", "x"), ("name", "y")], None, ("set", meta("x"), meta("y"), meta("y"))),
            (BOTH, [("less", meta("x"), ("sum", "y", 1))], None, ("minus", meta("y"), meta("x"))),
        )
        values = (num(0), num(5), name("a"), addr(0), ("map", ()), mapping(a=num(3), b=num(4)), node("box", node("stop")))
        some = 0
        for constructor, one, other in itertools.product(("at", "add"), values, values):
            found = first_rule(language, node(constructor, one, other))
            if found is not None:
                made(found[0][4], found[1])
                some += 1
        self.assertEqual(some, 1 + 1 + 3)


if __name__ == "__main__":
    unittest.main()
