"""passproven.unknowns: symbolic terms (F1)."""

import unittest

from building import addr, chain, mapping, meta, name, node, num, unknown, wide
from passproven.unknowns import added, integer, replaced, size, symbolic, unknowns_in


class Sums(unittest.TestCase):
    def test_integer(self):
        for number in (0, 5, -7, 10 ** 30):
            self.assertEqual(integer(number), ("sum", (), number))

    def test_added(self):
        one, other = ("sum", ((0, 1), (3, -2)), 5), ("sum", ((1, 4), (3, 2)), -7)
        self.assertEqual(added(one, other, 1), ("sum", ((0, 1), (1, 4)), -2))
        self.assertEqual(added(one, other, -1), ("sum", ((0, 1), (1, -4), (3, -4)), 12))
        self.assertEqual(added(one, one, -1), integer(0))
        self.assertEqual(added(one, integer(0), 1), one)
        self.assertEqual(added(integer(0), other, -1), ("sum", ((1, -4), (3, -2)), 7))
        self.assertEqual(added(integer(2), integer(10 ** 30), 1), integer(10 ** 30 + 2))

    def test_ascending_unknowns(self):
        self.assertEqual(added(("sum", ((9, 1),), 0), ("sum", ((2, 1), (10, 1)), 0), 1), ("sum", ((2, 1), (9, 1), (10, 1)), 0))


class Symbolic(unittest.TestCase):
    def test_terms(self):
        self.assertEqual(symbolic(num(5), {}), integer(5))
        for term in (name("a"), addr(3), node("end")):
            self.assertEqual(symbolic(term, {}), term)
        self.assertEqual(symbolic(node("f", num(1), node("g", name("a"))), {}), node("f", integer(1), node("g", name("a"))))
        self.assertEqual(symbolic(("map", ()), {}), ("map", None, ()))
        self.assertEqual(symbolic(mapping(b=num(1), a=mapping(c=name("x"))), {}),
                         ("map", None, ((name("a"), ("map", None, ((name("c"), name("x")),))), (name("b"), integer(1)))))

    def test_metavariables(self):
        known = {"x": unknown(4), "y": node("g", integer(1)), "z": unknown(0)}
        self.assertEqual(symbolic(node("f", meta("x"), meta("y"), meta("x")), known), node("f", unknown(4), known["y"], unknown(4)))
        self.assertEqual(symbolic(mapping(a=meta("x")), known), ("map", None, ((name("a"), unknown(4)),)))
        self.assertEqual(known, {"x": unknown(4), "y": node("g", integer(1)), "z": unknown(0)})

    def test_high_terms(self):
        for levels in (60, 900):
            self.assertEqual(size(symbolic(chain(levels), {})), levels + 1)


class Sizes(unittest.TestCase):
    def test_size(self):
        for term in (integer(5), ("sum", ((0, 1), (1, 2)), 5), name("a"), addr(1), unknown(3), node("end"), ("map", None, ()), ("map", 4, ())):
            self.assertEqual(size(term), 1)
        self.assertEqual(size(node("f", integer(1), node("g", unknown(1)))), 4)

    def test_entries_count_besides_their_values(self):
        self.assertEqual(size(("map", None, ((name("a"), integer(1)),))), 3)
        self.assertEqual(size(("map", 5, ((unknown(1), node("g", unknown(2))), (name("b"), ("map", None, ((name("c"), integer(1)),)))))), 8)
        self.assertEqual(size(symbolic(wide(100), {})), 201)

    def test_unknowns(self):
        self.assertEqual(unknowns_in(integer(1)), [])
        self.assertEqual(unknowns_in(("sum", ((1, 5), (4, -1)), 1)), [1, 4])
        self.assertEqual(unknowns_in(("map", 5, ((unknown(12), node("g", unknown(2))), (name("b"), unknown(2))))), [2, 5, 12])
        self.assertEqual(unknowns_in(node("f", unknown(10), unknown(9), ("map", None, ()), ("sum", ((3, 1),), 0))), [3, 9, 10])
        self.assertEqual(unknowns_in(("map", 0, ())), [0])


class Replaced(unittest.TestCase):
    def test_replaced(self):
        term = node("f", node("g", unknown(1)), node("h", integer(1), unknown(2)))
        self.assertEqual(replaced(term, (), unknown(9)), unknown(9))
        self.assertEqual(replaced(term, (0,), unknown(9)), node("f", unknown(9), term[2][1]))
        self.assertEqual(replaced(term, (1, 0), unknown(9)), node("f", term[2][0], node("h", unknown(9), unknown(2))))
        self.assertEqual(replaced(term, (1, 1), term), node("f", term[2][0], node("h", integer(1), term)))
        self.assertEqual(replaced(chain(60), (0,) * 60, unknown(9)), chain(60, unknown(9)))


if __name__ == "__main__":
    unittest.main()
