"""passproven.conditions: the promises B6 and B7, and of B18 what speaks of conditions."""

import itertools
import unittest

from building import addr, mapping, meta, name, node, num
from passproven.conditions import holds, operand_value, read_condition, words_of
from passproven.errors import BadTerm, TooDeep, TooLong

TERMS = (num(0), num(1), num(-5), name("a"), name("b"), addr(0), addr(1), ("map", ()), mapping(a=num(0)),
         node("z"), node("s", num(1)))


class Operands(unittest.TestCase):
    """B7"""

    def test_leaves(self):
        for term in (num(1), name("x"), addr(2)):
            self.assertEqual(operand_value(term, {"x": num(5)}), term)
            self.assertEqual(operand_value(term, {}), term)

    def test_metavariables(self):
        for term in TERMS:
            self.assertEqual(operand_value(meta("x"), {"y": num(9), "x": term}), term)

    def test_sums(self):
        self.assertEqual(operand_value(("sum", "x", 3), {"x": num(4)}), num(7))
        self.assertEqual(operand_value(("sum", "x", -3), {"x": num(-4)}), num(-7))
        self.assertEqual(operand_value(("sum", "x", 10 ** 20), {"x": num(10 ** 20)}), num(2 * 10 ** 20))
        for term in TERMS[3:]:
            self.assertIsNone(operand_value(("sum", "x", 3), {"x": term}))


class Holding(unittest.TestCase):
    """B7"""

    def check(self, condition, wanted, **bindings):
        self.assertIs(holds(condition, bindings), wanted, (condition, bindings))
        self.assertIs(holds(("not", condition), bindings), not wanted, (condition, bindings))

    def test_kinds(self):
        heads = {"integer": "int", "name": "name", "address": "addr", "map": "map"}
        for word, head in heads.items():
            for term in TERMS:
                self.check((word, "x"), term[0] == head, x=term, y=num(1))

    def test_equal(self):
        for one, other in itertools.product(TERMS, TERMS):
            wanted = one == other and one[0] in ("int", "name", "addr")
            self.check(("equal", meta("x"), meta("y")), wanted, x=one, y=other)
            if one[0] in ("int", "name", "addr"):
                self.check(("equal", one, meta("y")), wanted, y=other)
                self.check(("equal", meta("y"), one), wanted, y=other)

    def test_equal_of_one_metavariable(self):
        for term in TERMS:
            self.check(("equal", meta("x"), meta("x")), term[0] in ("int", "name", "addr"), x=term)

    def test_equal_of_leaves(self):
        self.check(("equal", num(1), num(1)), True)
        self.check(("equal", num(1), num(2)), False)
        self.check(("equal", name("a"), name("a")), True)
        self.check(("equal", num(1), addr(1)), False)
        self.check(("equal", addr(1), addr(1)), True)

    def test_equal_of_sums(self):
        self.check(("equal", ("sum", "x", 2), num(7)), True, x=num(5))
        self.check(("equal", num(8), ("sum", "x", 2)), False, x=num(5))
        self.check(("equal", ("sum", "x", 2), ("sum", "y", -1)), True, x=num(5), y=num(8))
        self.check(("equal", ("sum", "x", 2), ("sum", "x", 2)), False, x=name("a"))
        self.check(("equal", ("sum", "x", 2), ("sum", "y", 2)), False, x=addr(1), y=addr(1))

    def test_less(self):
        for one, other in itertools.product(TERMS, TERMS):
            wanted = one[0] == other[0] == "int" and one[1] < other[1]
            self.check(("less", meta("x"), meta("y")), wanted, x=one, y=other)
        self.check(("less", num(1), num(2)), True)
        self.check(("less", num(2), num(2)), False)
        self.check(("less", addr(1), addr(2)), False)
        self.check(("less", name("a"), name("b")), False)

    def test_less_of_sums(self):
        self.check(("less", ("sum", "x", 2), num(7)), True, x=num(4))
        self.check(("less", ("sum", "x", 2), num(7)), False, x=num(5))
        self.check(("less", num(7), ("sum", "x", 2)), True, x=num(6))
        self.check(("less", ("sum", "x", 2), num(7)), False, x=addr(1))
        self.check(("less", ("sum", "x", -1), meta("x")), True, x=num(0))
        self.check(("less", ("sum", "x", -1), meta("x")), False, x=name("a"))

    def test_has(self):
        both = mapping(a=num(1), b=num(2))
        self.check(("has", "x", name("a")), True, x=both)
        self.check(("has", "x", name("b")), True, x=both)
        self.check(("has", "x", name("c")), False, x=both)
        self.check(("has", "x", name("a")), False, x=("map", ()))
        for term in TERMS:
            self.check(("has", "x", name("a")), term == mapping(a=num(0)), x=term)
            self.check(("has", "x", meta("k")), term == name("a"), x=mapping(a=num(0)), k=term)
            self.check(("has", "x", meta("k")), term == mapping(a=num(0)), x=term, k=name("a"))

    def test_bindings_stay(self):
        bindings = {"x": num(1), "y": mapping(a=num(1))}
        for condition in (("has", "y", name("a")), ("less", ("sum", "x", 1), num(5)), ("not", ("map", "x"))):
            holds(condition, bindings)
        self.assertEqual(bindings, {"x": num(1), "y": mapping(a=num(1))})


class Words(unittest.TestCase):
    def test_words(self):
        for condition, words in (
            (("integer", "x"), ["x"]), (("name", "x"), ["x"]), (("address", "x"), ["x"]), (("map", "x"), ["x"]),
            (("equal", meta("x"), meta("y")), ["x", "y"]),
            (("equal", meta("x"), meta("x")), ["x", "x"]),
            (("less", meta("y"), ("sum", "x", 2)), ["y", "x"]),
            (("less", ("sum", "y", 1), num(2)), ["y"]),
            (("less", name("x"), addr(2)), []),
            (("has", "m", meta("k")), ["m", "k"]),
            (("has", "m", name("k")), ["m"]),
            (("has", "m", meta("m")), ["m", "m"]),
        ):
            self.assertEqual(words_of(condition), words)
            self.assertEqual(words_of(("not", condition)), words)

    def test_a_new_list(self):
        condition = ("not", ("integer", "x"))
        words_of(condition).append("y")
        self.assertEqual(words_of(condition), ["x"])


class Reading(unittest.TestCase):
    """B18"""

    def test_conditions(self):
        for text, condition in (
            ("(integer $x)", ("integer", "x")), ("(name $x)", ("name", "x")),
            ("(address $x)", ("address", "x")), ("(map $x)", ("map", "x")),
            ("(equal $x (plus $y 2))", ("equal", meta("x"), ("sum", "y", 2))),
            ("(equal (plus $x -2) 'a)", ("equal", ("sum", "x", -2), name("a"))),
            ("(less 1 @2)", ("less", num(1), addr(2))),
            ("(less $x $x)", ("less", meta("x"), meta("x"))),
            ("(has $m 'a)", ("has", "m", name("a"))), ("(has $m $k)", ("has", "m", meta("k"))),
            ("(equal $plus 'plus)", ("equal", meta("plus"), name("plus"))), ("(map $not)", ("map", "not")),
        ):
            self.assertEqual(read_condition(text), condition)
            self.assertEqual(read_condition(f" (not\n{text})"), ("not", condition))

    def test_other_terms(self):
        for text in (
            "1", "'a", "@1", "$x", "{}", "{'a 1}", "(plus $x 1)", "(integer 1)", "(integer 'x)", "(map {})",
            "'not", "$not", "'integer", "$map", "(not 'map)", "(not $integer)",
            "(name (integer $x))", "(integer (plus $x 1))", "(address @1)", "(equal $x {})", "(equal {} $x)",
            "(equal $x (integer $y))", "(equal (not $x) $y)", "(less (plus 1 $x) 2)", "(less (plus $x $y) 2)",
            "(less (plus $x 0) 2)", "(less (plus 1 2) 3)", "(less 1 (plus $x 'a))", "(less 1 (plus (plus $x 1) 1))",
            "(has $m 1)", "(has $m @1)", "(has 'm 'a)", "(has {'a 1} 'a)", "(has $m (plus $k 1))", "(has $m {})",
            "(not 1)", "(not $x)", "(not (not (integer $x)))", "(not (plus $x 1))", "(not (has $m 1))", "(not {})",
        ):
            self.assertIsNone(read_condition(text), text)

    def test_errors_in_texts(self):
        for text, position in (("", 0), ("(integer)", 8), ("(integer $x $y)", 12), ("(other $x)", 1), ("integer", 0),
                               ("(minus $x 1)", 1), ("(sum $x 1)", 1), ("(equal $x)", 9), ("(not (map $x)", 13)):
            with self.assertRaises(BadTerm) as caught:
                read_condition(text)
            self.assertEqual(caught.exception.position, position)
        with self.assertRaises(TooDeep) as caught:
            read_condition("(not " * 61)
        self.assertEqual(caught.exception.position, 300)
        self.assertRaises(TooLong, read_condition, "(integer $x)" + " " * 3989)
        self.assertEqual(read_condition("(integer $x)" + " " * 3988), ("integer", "x"))


if __name__ == "__main__":
    unittest.main()
