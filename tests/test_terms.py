"""passproven.terms: the promises A1 to A3, and the patterns of A7."""

import unittest

from building import addr, chain, mapping, meta, name, node, num, wide
from passproven.terms import (
    children, height, is_ground, is_pattern, is_word, metavariables, parts_of, rebuild, size,
)

LEAVES = (num(5), num(-3), num(10 ** 30), name("a"), addr(0), meta("x"))
FORMS = (
    ("get", meta("m"), name("k")),
    ("set", meta("m"), name("k"), num(1)),
    ("plus", num(1), meta("x")),
    ("minus", meta("y"), num(2)),
)


class Words(unittest.TestCase):
    """A1"""

    def test_words(self):
        for word in ("a", "z", "abcdefghijkl", "a1", "z_9", "a___________", "get", "x0"):
            self.assertIs(is_word(word), True, word)

    def test_lengths(self):
        self.assertIs(is_word("a" * 12), True)
        self.assertIs(is_word("a" * 13), False)
        self.assertIs(is_word(""), False)

    def test_no_words(self):
        for text in ("1", "1a", "_", "_a", "A", "aB", "a-b", "a b", " a", "a ", "a\n", "\n", "'a", "$a",
                     "\u00e4", "a\u00e4", "a\u0661", "a.", "a" * 4000):
            self.assertIs(is_word(text), False, repr(text))


class Parts(unittest.TestCase):
    """A2"""

    def test_children_of_leaves(self):
        for leaf in LEAVES:
            self.assertEqual(children(leaf), ())

    def test_children_of_nodes(self):
        self.assertEqual(children(node("none")), ())
        self.assertEqual(children(node("add", num(1), node("s", num(2)))), (num(1), node("s", num(2))))
        eight = tuple(num(n) for n in range(8))
        self.assertEqual(children(node("eight", *eight)), eight)

    def test_children_of_maps(self):
        self.assertEqual(children(("map", ())), ())
        self.assertEqual(children(mapping(b=num(2), a=num(1))), (num(1), num(2)))

    def test_children_are_a_tuple(self):
        for term in LEAVES + FORMS + (mapping(a=num(1)), node("s", num(1))):
            self.assertIsInstance(children(term), tuple)

    def test_rebuild(self):
        self.assertEqual(rebuild(node("add", num(1), num(2)), [num(3), num(4)]), node("add", num(3), num(4)))
        self.assertEqual(rebuild(node("add", num(1), num(2)), (num(3), num(4))), node("add", num(3), num(4)))
        self.assertEqual(rebuild(mapping(a=num(1), b=num(2)), [num(3), name("k")]), mapping(a=num(3), b=name("k")))
        self.assertEqual(rebuild(mapping(a=num(1)), (num(3),)), mapping(a=num(3)))

    def test_rebuild_without_parts(self):
        for term in LEAVES + (node("none"), ("map", ())):
            self.assertEqual(rebuild(term, []), term)
            self.assertEqual(rebuild(term, ()), term)

    def test_rebuild_gives_tuples_and_leaves_the_list(self):
        parts = [num(3), num(4)]
        for term in (node("add", num(1), num(2)), mapping(a=num(1), b=num(2)), ("plus", num(1), num(2))):
            made = rebuild(term, parts)
            self.assertEqual(parts, [num(3), num(4)])
            self.assertEqual(hash(made), hash(rebuild(term, tuple(parts))))
            self.assertEqual(children(made), (num(3), num(4)))

    def test_parts_of(self):
        one = node("s", num(1))
        inner = mapping(a=one, b=meta("x"))
        term = node("add", inner, node("s", name("k")))
        self.assertEqual(
            list(parts_of(term)),
            [term, inner, one, num(1), meta("x"), node("s", name("k")), name("k")],
        )

    def test_parts_of_lists_equal_parts_each_time(self):
        self.assertEqual(list(parts_of(node("add", num(1), num(1)))), [node("add", num(1), num(1)), num(1), num(1)])

    def test_parts_of_is_a_generator(self):
        found = parts_of(node("s", num(1)))
        self.assertEqual(next(found), node("s", num(1)))
        self.assertEqual(next(found), num(1))
        self.assertRaises(StopIteration, next, found)

    def test_size(self):
        for leaf in LEAVES + (node("none"), ("map", ())):
            self.assertEqual(size(leaf), 1)
        self.assertEqual(size(node("add", node("s", num(1)), num(1))), 4)
        self.assertEqual(size(mapping(a=node("s", num(1)), b=num(2))), 4)
        self.assertEqual(size(wide(3999)), 4000)

    def test_height(self):
        for leaf in LEAVES + (node("none"), ("map", ())):
            self.assertEqual(height(leaf), 0)
        self.assertEqual(height(node("s", node("none"))), 1)
        self.assertEqual(height(node("add", num(1), chain(3))), 4)
        self.assertEqual(height(node("add", chain(3), num(1))), 4)
        self.assertEqual(height(mapping(a=num(1), b=mapping(c=num(1)), d=num(2))), 2)

    def test_high_terms(self):
        term = chain(200, meta("x"))
        self.assertEqual(height(term), 200)
        self.assertEqual(size(term), 201)
        self.assertEqual(len(list(parts_of(term))), 201)
        self.assertEqual(metavariables(term), ["x"])
        self.assertIs(is_ground(term), False)
        self.assertIs(is_ground(chain(200)), True)
        self.assertIs(is_pattern(term), True)
        self.assertEqual(children(term), (chain(199, meta("x")),))
        self.assertEqual(rebuild(term, [num(1)]), chain(1, num(1)))

    def test_metavariables(self):
        term = node("three", meta("b"), mapping(c=meta("a"), d=meta("b")), node("s", meta("c")))
        self.assertEqual(metavariables(term), ["b", "a", "c"])
        self.assertEqual(metavariables(node("add", name("x"), num(1))), [])
        self.assertEqual(metavariables(meta("x")), ["x"])

    def test_metavariables_is_a_new_list(self):
        term = node("add", meta("x"), meta("y"))
        found = metavariables(term)
        self.assertIsInstance(found, list)
        found.clear()
        self.assertEqual(metavariables(term), ["x", "y"])

    def test_is_ground(self):
        self.assertIs(is_ground(node("add", name("x"), mapping(x=num(1)))), True)
        self.assertIs(is_ground(meta("x")), False)
        self.assertIs(is_ground(mapping(a=num(1), b=node("s", meta("x")))), False)


class Forms(unittest.TestCase):
    """A3"""

    def test_children(self):
        for form in FORMS:
            self.assertEqual(children(form), form[1:])

    def test_rebuild(self):
        self.assertEqual(rebuild(FORMS[0], [num(1), num(2)]), ("get", num(1), num(2)))
        self.assertEqual(rebuild(FORMS[1], (num(1), num(2), num(3))), ("set", num(1), num(2), num(3)))
        self.assertEqual(rebuild(FORMS[2], [num(1), num(2)]), ("plus", num(1), num(2)))
        self.assertEqual(rebuild(FORMS[3], [num(1), num(2)]), ("minus", num(1), num(2)))

    def test_parts_size_and_height(self):
        form = node("s", ("set", meta("m"), name("k"), ("plus", meta("x"), num(1))))
        self.assertEqual(
            list(parts_of(form)),
            [form, form[2][0], meta("m"), name("k"), ("plus", meta("x"), num(1)), meta("x"), num(1)],
        )
        self.assertEqual(size(form), 7)
        self.assertEqual(height(form), 3)
        self.assertEqual([height(each) for each in FORMS], [1, 1, 1, 1])

    def test_metavariables(self):
        self.assertEqual(metavariables(("minus", ("get", meta("b"), meta("a")), meta("b"))), ["b", "a"])
        self.assertEqual([is_ground(form) for form in FORMS], [False] * 4)
        self.assertIs(is_ground(("plus", num(1), num(2))), True)

    def test_is_pattern(self):
        self.assertIs(is_pattern(("plus", meta("x"), meta("y"))), True)
        self.assertIs(is_pattern(("plus", meta("x"), meta("x"))), False)
        self.assertIs(is_pattern(("get", mapping(a=num(1)), name("a"))), False)


class Patterns(unittest.TestCase):
    """A7"""

    def test_patterns(self):
        for term in LEAVES + (node("none"), node("add", meta("x"), node("s", meta("y"))), chain(200)):
            self.assertIs(is_pattern(term), True)

    def test_maps_are_in_no_pattern(self):
        for term in (("map", ()), mapping(a=num(1)), node("add", meta("x"), node("s", ("map", ())))):
            self.assertIs(is_pattern(term), False)

    def test_metavariables_stand_once_in_a_pattern(self):
        self.assertIs(is_pattern(node("add", meta("x"), node("s", meta("x")))), False)
        self.assertIs(is_pattern(node("add", meta("x"), name("x"))), True)
        self.assertIs(is_pattern(node("add", name("x"), name("x"))), True)


if __name__ == "__main__":
    unittest.main()
