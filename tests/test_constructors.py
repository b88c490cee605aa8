"""passproven.constructors: the promises B1 to B3, and of B16 what speaks of constructors."""

import unittest

from building import addr, chain, mapping, meta, name, node, num
from passproven.constructors import BadConstructor, BadLanguage, check_constructors, is_program, is_value
from passproven.errors import PassError
from passproven.languages import Language

CONSTRUCTORS = (
    ("num", 1, "value", [0]),
    ("pair", 2, "value", [1, 0]),
    ("lazy", 2, "value", [1]),
    ("box", 1, "value", []),
    ("unit", 0, "value", []),
    ("s", 1, "value", [0]),
    ("add", 2, "plain", [0, 1]),
    ("stop", 0, "plain", []),
)
LANGUAGE = Language(CONSTRUCTORS, [])


def error_of(constructors):
    """What check_constructors raises: None, a reason, or a number and a reason."""
    try:
        return check_constructors(constructors)
    except BadLanguage as error:
        return error.reason
    except BadConstructor as error:
        return (error.number, error.reason)


def units(many):
    return [(f"c{n}", 0, "value", []) for n in range(many)]


class Classes(unittest.TestCase):
    def test_bases(self):
        self.assertTrue(issubclass(BadLanguage, PassError))
        self.assertTrue(issubclass(BadConstructor, PassError))
        self.assertFalse(issubclass(BadConstructor, BadLanguage))


class Constructors(unittest.TestCase):
    """B1, B15, B16"""

    def test_right_ones(self):
        self.assertIsNone(check_constructors(CONSTRUCTORS))
        self.assertIsNone(check_constructors(list(CONSTRUCTORS)))
        self.assertIsNone(check_constructors([("a", 2, "plain", (1, 0))]))

    def test_numbers_of_constructors(self):
        self.assertEqual(error_of([]), "constructors")
        self.assertEqual(error_of(()), "constructors")
        self.assertIsNone(error_of(units(1)))
        self.assertIsNone(error_of(units(40)))
        self.assertIsNone(error_of(tuple(units(40))))
        self.assertEqual(error_of(units(41)), "constructors")
        self.assertEqual(error_of([("?", 9, "", [5])] * 41), "constructors")

    def test_names(self):
        for word in ("a", "abcdefghijkl", "int", "name", "addr", "map", "node", "meta", "integer", "equal", "has",
                     "not", "sum", "a_1", "gets", "news"):
            self.assertIsNone(error_of([(word, 0, "value", [])]))
        for word in ("get", "set", "plus", "minus", "new", "read", "write", "put", "", "1a", "_a", "A", "a" * 13, "a b"):
            self.assertEqual(error_of([(word, 0, "value", [])]), (0, "name"))

    def test_many(self):
        for many in range(7):
            self.assertIsNone(error_of([("a", many, "plain", list(range(many)))]))
        for many in (-1, 7, 8, 100):
            self.assertEqual(error_of([("a", many, "plain", [])]), (0, "many"))

    def test_kinds(self):
        self.assertIsNone(error_of([("a", 0, "value", []), ("b", 0, "plain", [])]))
        for kind in ("", "values", "Value", "plai", "any", "v"):
            self.assertEqual(error_of([("a", 0, kind, [])]), (0, "kind"))

    def test_strict_places(self):
        for strict in ([], [0], [5], [5, 4, 3, 2, 1, 0], [3, 0, 4], (0, 1, 2, 3, 4, 5)):
            self.assertIsNone(error_of([("a", 6, "plain", strict)]))
            self.assertIsNone(error_of([("a", 6, "value", strict)]))
        for strict in ([6], [-1], [0, 0], [0, 1, 2, 0], [0, 6], [1, 2, -1], (0, 0)):
            self.assertEqual(error_of([("a", 6, "plain", strict)]), (0, "strict"))
        self.assertEqual(error_of([("a", 0, "plain", [0])]), (0, "strict"))
        self.assertEqual(error_of([("a", 1, "value", [1])]), (0, "strict"))

    def test_order_of_the_reasons(self):
        self.assertEqual(error_of([("get", 7, "x", [9])]), (0, "name"))
        self.assertEqual(error_of([("a", 7, "x", [9])]), (0, "many"))
        self.assertEqual(error_of([("a", 6, "x", [9])]), (0, "kind"))
        self.assertEqual(error_of([("a", 6, "plain", [9])]), (0, "strict"))

    def test_order_of_the_constructors(self):
        good, bad, worse = ("a", 0, "plain", []), ("b", 0, "plain", [0]), ("get", 0, "plain", [])
        self.assertEqual(error_of([good, bad, worse]), (1, "strict"))
        self.assertEqual(error_of([good, worse, bad]), (1, "name"))
        self.assertEqual(error_of(units(39) + [worse]), (39, "name"))

    def test_double(self):
        one, same, other = ("a", 0, "plain", []), ("a", 1, "value", [0]), ("b", 0, "plain", [])
        self.assertEqual(error_of([one, same]), (1, "double"))
        self.assertEqual(error_of([one, other, same]), (2, "double"))
        self.assertEqual(error_of([other, one, one, other]), (2, "double"))
        self.assertEqual(error_of([one, other, other, one]), (2, "double"))
        self.assertEqual(error_of([one, one, ("c", 0, "x", [])]), (2, "kind"))

    def test_arguments_stay(self):
        strict = [1, 0]
        constructors = [("a", 2, "plain", strict)]
        check_constructors(constructors)
        self.assertEqual(constructors, [("a", 2, "plain", [1, 0])])
        self.assertEqual(strict, [1, 0])


class Values(unittest.TestCase):
    """B2"""

    def check(self, term, wanted):
        self.assertIs(is_value(LANGUAGE, term), wanted, term)

    def test_leaves(self):
        for term in (num(1), name("a"), addr(0), ("map", ()), mapping(a=num(1))):
            self.check(term, True)
        self.check(meta("x"), False)

    def test_nodes(self):
        self.check(node("unit"), True)
        self.check(node("stop"), False)
        self.check(node("add", num(1), num(2)), False)
        self.check(node("num", num(1)), True)
        self.check(node("num", node("stop")), False)
        self.check(node("num", meta("x")), False)
        self.check(node("pair", num(1), node("stop")), False)
        self.check(node("pair", node("stop"), num(1)), False)
        self.check(node("pair", num(1), node("num", num(1))), True)

    def test_places_that_are_not_strict(self):
        self.check(node("box", node("stop")), True)
        self.check(node("box", meta("x")), True)
        self.check(node("lazy", node("stop"), num(1)), True)
        self.check(node("lazy", num(1), node("stop")), False)
        self.check(node("pair", node("box", node("add", num(1), num(2))), num(1)), True)

    def test_depth(self):
        self.check(chain(60), True)
        self.check(chain(60, node("stop")), False)
        self.check(chain(59, node("box", node("stop"))), True)


class Programs(unittest.TestCase):
    """B3"""

    def check(self, term, wanted):
        self.assertIs(is_program(LANGUAGE, term), wanted, term)

    def test_programs(self):
        for term in (num(1), num(10 ** 40), name("other"), addr(7), ("map", ()), node("unit"), node("stop"),
                     node("add", node("stop"), node("add", num(1), num(2))), mapping(a=num(1), b=node("unit")), chain(60)):
            self.check(term, True)

    def test_metavariables(self):
        self.check(meta("x"), False)
        self.check(node("box", meta("x")), False)
        self.check(mapping(a=node("box", meta("x"))), False)

    def test_constructors(self):
        self.check(node("other"), False)
        self.check(node("unit", num(1)), False)
        self.check(node("num"), False)
        self.check(node("num", num(1), num(2)), False)
        self.check(node("add", num(1), node("other", num(1))), False)
        self.check(node("box", node("box", node("other"))), False)
        self.check(mapping(a=node("other")), False)
        self.check(mapping(a=node("num")), False)
        self.check(chain(59, node("other")), False)

    def test_maps_hold_values(self):
        self.check(mapping(a=node("stop")), False)
        self.check(mapping(a=num(1), b=node("num", node("stop"))), False)
        self.check(mapping(a=node("box", node("stop"))), True)
        self.check(mapping(a=mapping(b=num(1))), True)
        self.check(mapping(a=mapping(b=node("stop"))), False)
        self.check(node("add", num(1), mapping(a=node("stop"))), False)
        self.check(node("box", mapping(a=node("stop"))), False)
        self.check(mapping(a=node("box", mapping(b=node("stop")))), False)
        self.check(mapping(a=node("box", mapping(b=num(1)))), True)


if __name__ == "__main__":
    unittest.main()
