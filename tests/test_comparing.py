"""passproven.comparing: the promise H7."""

import unittest

from building import addr, chain, meta, name, node, num, told, unknown
from passproven.asking import Ask
from passproven.comparing import are_same, are_same_actions
from passproven.knowledge import Knowledge
from passproven.unknowns import integer


def one(u, number=0):
    return ("sum", ((u, 1),), number)


def put_on(base, *entries):
    return ("map", base, entries)


A, B, C = name("a"), name("b"), name("c")


class Comparing(unittest.TestCase):
    def setUp(self):
        """Unknowns: 0 and 1 integers, 2 and 3 names, 4 and 5 addresses, 6 and 7 maps, 8 and 9 constants, 10 and 11 not known."""
        known, _ = Knowledge().fresh(12)
        for u, sort in enumerate(("integer", "name", "address", "map")):
            known = known.with_sort(2 * u, sort).with_sort(2 * u + 1, sort)
        self.known = known.with_constant(8, True).with_constant(9, False)

    def asks(self, question, first, second, known=None):
        with self.assertRaises(Ask) as caught:
            are_same(known or self.known, first, second)
        self.assertEqual(caught.exception.question, question)

    def same(self, first, second, expected=True, known=None):
        known = known or self.known
        before = told(known)
        self.assertIs(are_same(known, first, second), expected)
        self.assertIs(are_same(known, first, second), expected)
        self.assertEqual(told(known), before)


class Leaves(Comparing):
    def test_unknowns_of_which_nothing_is_known(self):
        for u in (8, 9, 10, 11):
            self.same(unknown(u), unknown(u))
            for other in (integer(0), A, addr(0), put_on(None), node("end"), unknown(0), unknown(2), unknown(4), unknown(6), unknown(12)):
                self.same(unknown(u), other, False)
                self.same(other, unknown(u), False)
        self.same(unknown(8), unknown(9), False)
        self.same(unknown(10), unknown(11), False)
        self.same(unknown(10), unknown(8), False)

    def test_two_values_of_which_nothing_more_is_known(self):
        known = self.known.with_worth(10, True).with_worth(11, True)
        self.same(unknown(10), unknown(11), False, known)

    def test_different_sorts(self):
        terms = (integer(0), one(0), A, unknown(2), addr(0), unknown(4), put_on(None), put_on(6), unknown(6), node("end"), node("s", integer(0)))
        sorts = "iinnaammmoo"
        for first, sort in zip(terms, sorts):
            for second, other in zip(terms, sorts):
                if sort != other:
                    self.same(first, second, False)

    def test_integers(self):
        self.same(integer(5), integer(5))
        self.same(integer(5), integer(6), False)
        self.same(unknown(0), one(0))
        self.same(one(0, 5), one(0, 6), False)
        self.asks(("order", one(0), one(1)), unknown(0), unknown(1))
        self.asks(("order", one(1), one(0)), unknown(1), unknown(0))
        self.asks(("order", one(0), integer(5)), unknown(0), integer(5))
        self.asks(("order", integer(0), one(0, -5)), integer(5), unknown(0))
        self.asks(("order", one(1), one(0, 3)), one(1, -1), one(0, 2))

    def test_integers_of_which_something_is_known(self):
        known = self.known.with_condition(("less", meta("u0"), meta("u1")))
        self.same(unknown(0), unknown(1), False, known)
        self.same(one(0, -3), one(1, 2), False, known)
        self.asks(("order", one(0), one(1, -1)), one(0, 1), unknown(1), known)
        known = self.known.with_condition(("equal", meta("u0"), num(7)))
        self.same(unknown(0), integer(7), True, known)
        self.same(one(0, 1), integer(7), False, known)

    def test_integers_that_cannot_be_asked_for_are_different(self):
        for parts in (((0, 2),), ((0, 1), (1, 1)), ((0, -1), (1, -1)), ((0, 2), (1, -1))):
            self.same(("sum", parts, 0), integer(0), False)
            self.same(integer(3), ("sum", parts, 0), False)
            self.same(("sum", parts, 4), ("sum", parts, 4))
            self.same(("sum", parts, 4), ("sum", parts, 5), False)
        self.same(node("f", ("sum", ((0, 2),), 0), unknown(2)), node("f", integer(0), A), False)

    def test_names_and_addresses(self):
        for first, second, (given, other) in ((2, 3, (A, B)), (4, 5, (addr(0), addr(1)))):
            self.same(given, given)
            self.same(given, other, False)
            self.same(unknown(first), unknown(first))
            for left, right in ((unknown(first), unknown(second)), (unknown(second), unknown(first)), (unknown(first), given), (given, unknown(second))):
                self.asks(("same", left, right), left, right)
            known = self.known.with_condition(("equal", meta(f"u{first}"), given))
            self.same(unknown(first), given, True, known)
            self.same(unknown(first), other, False, known)
            known = self.known.with_condition(("not", ("equal", meta(f"u{first}"), meta(f"u{second}"))))
            self.same(unknown(first), unknown(second), False, known)


class Nodes(Comparing):
    def test_constructors(self):
        self.same(node("end"), node("end"))
        self.same(node("end"), node("nil"), False)
        self.same(node("s", unknown(10)), node("t", unknown(10)), False)

    def test_from_left_to_right(self):
        self.same(node("f", unknown(10), unknown(8)), node("f", unknown(10), unknown(8)))
        self.same(node("f", unknown(10), unknown(8)), node("f", unknown(8), unknown(10)), False)
        self.asks(("same", unknown(2), A), node("f", unknown(2), integer(1)), node("f", A, integer(2)))
        self.same(node("f", integer(1), unknown(2)), node("f", integer(2), A), False)
        self.asks(("order", one(0), integer(1)), node("f", node("s", integer(1), unknown(0)), unknown(2)), node("f", node("s", integer(1), integer(1)), A))
        self.same(node("f", node("s", integer(1)), unknown(2)), node("f", node("s", integer(2)), A), False)

    def test_nodes_that_unknowns_are(self):
        known, inner = self.known.with_node(10, "pair", 2)
        known = known.with_sort(inner[1], "integer")
        self.same(unknown(10), unknown(10), True, known)
        self.same(unknown(10), node("pair", unknown(12), unknown(13)), True, known)
        self.same(node("pair", unknown(12), one(13)), unknown(10), True, known)
        self.same(unknown(10), node("pair", unknown(11), unknown(13)), False, known)
        self.same(unknown(10), unknown(11), False, known)
        self.asks(("order", one(13), integer(5)), unknown(10), node("pair", unknown(12), integer(5)), known)

    def test_through_templates(self):
        known, _ = self.known.with_node(10, "pair", 2)
        seen = known.through({"pair": (("a", "b"), node("join", meta("b"), node("box", meta("a"))))})
        self.same(unknown(10), node("join", unknown(13), node("box", unknown(12))), True, seen)
        self.same(unknown(10), node("pair", unknown(12), unknown(13)), False, seen)

    def test_deep_terms(self):
        self.same(chain(900, unknown(10)), chain(900, unknown(10)))
        self.asks(("same", unknown(2), A), chain(900, unknown(2)), chain(900, A))
        self.same(chain(900, unknown(10)), chain(900, unknown(11)), False)


class Maps(Comparing):
    def test_what_is_below(self):
        self.same(put_on(None), put_on(None))
        self.same(unknown(6), put_on(6))
        self.same(put_on(6), put_on(7), False)
        self.same(unknown(6), unknown(7), False)
        self.same(put_on(6), put_on(None), False)
        self.same(put_on(6, (A, integer(1))), put_on(7, (A, integer(1))), False)

    def test_entries(self):
        self.same(put_on(None, (A, integer(1)), (B, integer(2))), put_on(None, (B, integer(2)), (A, integer(1))))
        self.same(put_on(None, (A, integer(1))), put_on(None, (A, integer(2))), False)
        self.same(put_on(None, (A, integer(1))), put_on(None, (B, integer(1))), False)
        self.same(put_on(None, (A, integer(1))), put_on(None), False)
        self.same(put_on(None), put_on(None, (A, integer(1))), False)
        self.same(put_on(None, (A, integer(1)), (A, integer(2))), put_on(None, (A, integer(1))))
        self.same(put_on(None, (A, integer(2)), (A, integer(1))), put_on(None, (A, integer(1))), False)

    def test_names_of_the_first_map_and_then_of_the_second_one(self):
        # Under b nothing has to be asked, so that a question tells which name was looked at before.
        first = put_on(None, (B, unknown(0)), (A, unknown(2)))
        self.asks(("order", one(0), integer(1)), first, put_on(None, (A, C), (B, integer(1))))
        first = put_on(None, (A, unknown(2)), (B, unknown(0)))
        self.asks(("same", unknown(2), C), first, put_on(None, (B, integer(1)), (A, C)))
        self.asks(("same", C, unknown(2)), put_on(None, (A, C)), put_on(None, (B, integer(1)), (A, unknown(2))))
        self.same(put_on(None, (A, integer(1))), put_on(None, (B, unknown(0)), (A, integer(1))), False)
        self.same(put_on(None, (A, integer(1)), (B, unknown(0))), put_on(None, (B, integer(5)), (A, integer(2))), False)

    def test_names_that_are_asked_for(self):
        both = put_on(None, (unknown(2), integer(1)), (unknown(3), integer(2)))
        self.asks(("same", unknown(2), unknown(3)), both, both)
        known = self.known.with_condition(("equal", meta("u2"), meta("u3")))
        self.same(both, both, True, known)
        self.same(both, put_on(None, (unknown(3), integer(1))), True, known)
        known = self.known.with_condition(("not", ("equal", meta("u2"), meta("u3"))))
        self.same(both, both, True, known)
        self.same(both, put_on(None, (unknown(3), integer(2)), (unknown(2), integer(1))), True, known)
        self.same(both, put_on(None, (unknown(3), integer(1))), False, known)

    def test_looking_up_in_the_unknown_map(self):
        self.asks(("has", 6, A), put_on(6, (A, integer(1))), put_on(6))
        self.asks(("has", 6, unknown(2)), put_on(6), put_on(6, (unknown(2), integer(1))))
        missing = self.known.with_condition(("not", ("has", "u6", A)))
        self.same(put_on(6, (A, integer(1))), put_on(6), False, missing)
        there = self.known.with_condition(("has", "u6", A))
        self.asks(("get", 6, A), put_on(6, (A, integer(1))), put_on(6), there)
        got, u = there.with_got(6, A)
        self.same(put_on(6, (A, integer(1))), put_on(6), False, got)
        self.same(put_on(6, (A, unknown(u))), put_on(6), True, got)
        self.same(put_on(6), put_on(6, (A, unknown(u))), True, got)
        self.same(put_on(6, (A, integer(1))), put_on(6, (A, integer(1))))

    def test_maps_within_terms(self):
        self.asks(("has", 6, A), node("f", put_on(6, (A, integer(1)))), node("f", unknown(6)))
        self.same(put_on(None, (A, put_on(6, (B, integer(1))))), put_on(None, (A, put_on(6, (B, integer(1))))))
        self.same(put_on(None, (A, put_on(6, (B, integer(1))))), put_on(None, (A, put_on(6, (B, integer(2))))), False)
        inner = put_on(None, (A, unknown(0)))
        self.asks(("order", one(0), one(1)), put_on(None, (B, inner), (C, unknown(2))), put_on(None, (C, A), (B, put_on(None, (A, unknown(1))))))


class Actions(Comparing):
    """H5: the same action"""

    def same_actions(self, first, second, expected):
        self.assertIs(are_same_actions(self.known, first, second), expected)

    def asks_actions(self, question, first, second):
        with self.assertRaises(Ask) as caught:
            are_same_actions(self.known, first, second)
        self.assertEqual(caught.exception.question, question)

    def test_different_kinds(self):
        actions = [("new", integer(1)), ("read", addr(1)), ("write", addr(1), integer(1)), ("put", integer(1))]
        for first in actions:
            for second in actions:
                self.same_actions(first, second, first is second)

    def test_parts(self):
        self.same_actions(("new", unknown(10)), ("new", unknown(11)), False)
        self.asks_actions(("same", unknown(4), addr(1)), ("read", unknown(4)), ("read", addr(1)))
        self.asks_actions(("order", one(0), integer(3)), ("put", one(0)), ("put", integer(3)))
        self.same_actions(("put", ("sum", ((0, 2),), 0)), ("put", integer(0)), False)
        self.same_actions(("write", addr(1), unknown(0)), ("write", addr(2), integer(0)), False)
        self.asks_actions(("same", addr(1), unknown(5)), ("write", addr(1), unknown(0)), ("write", unknown(5), integer(0)))
        self.asks_actions(("order", one(0), integer(0)), ("write", unknown(5), unknown(0)), ("write", unknown(5), integer(0)))


if __name__ == "__main__":
    unittest.main()
