"""passproven.asking: the promises F5 to F8."""

import unittest

from building import addr, meta, name, node, num, told, unknown
from passproven.asking import Ask, Undecided, answers, held, is_same, order, shape
from passproven.errors import PassError
from passproven.knowledge import Knowledge
from passproven.unknowns import integer
from samples import language

LANGUAGE = language()


def total(number, *parts):
    return ("sum", parts, number)


def one(u, number=0):
    return total(number, (u, 1))


def integers(many, *conditions):
    known, unknowns = Knowledge().fresh(many)
    for u in unknowns:
        known = known.with_sort(u, "integer")
    for condition in conditions:
        known = known.with_condition(condition)
    return known


class Asking(unittest.TestCase):
    def asks(self, question, function, *arguments):
        with self.assertRaises(Ask) as caught:
            function(*arguments)
        self.assertEqual(caught.exception.question, question)

    def test_errors_of_the_package(self):
        self.assertTrue(issubclass(Ask, PassError) and issubclass(Undecided, PassError))


class Orders(Asking):
    """F6"""

    def test_numbers(self):
        known = integers(2)
        for left, right, expected in ((1, 2, "less"), (2, 2, "equal"), (3, 2, "greater")):
            self.assertEqual(order(known, integer(left), integer(right)), expected)
            self.assertEqual(order(known, one(0, left), one(0, right)), expected)
            self.assertEqual(order(known, total(left, (0, 3), (1, -2)), total(right, (0, 3), (1, -2))), expected)

    def test_one_unknown_is_asked(self):
        known = integers(2)
        self.asks(("order", one(0), integer(5)), order, known, one(0), integer(5))
        self.asks(("order", integer(0), one(0, -5)), order, known, integer(5), one(0))
        self.asks(("order", one(1), integer(2)), order, known, total(3, (0, 2), (1, 1)), total(5, (0, 2)))

    def test_two_unknowns_are_asked(self):
        known = integers(3)
        self.asks(("order", one(0), one(1)), order, known, one(0), one(1))
        self.asks(("order", one(1), one(0, -3)), order, known, one(1, 5), one(0, 2))
        self.asks(("order", one(2), one(1, 7)), order, known, total(-7, (2, 1), (0, 5)), total(0, (1, 1), (0, 5)))

    def test_other_sums_are_undecided(self):
        known = integers(3)
        for parts in (((0, 2),), ((0, 1), (1, 1)), ((0, -1), (1, -1)), ((0, 2), (1, -1)), ((0, 1), (1, -1), (2, 1)), ((0, -3),)):
            self.assertRaises(Undecided, order, known, total(1, *parts), integer(0))

    def test_the_order_is_known(self):
        known = integers(2, ("less", meta("u0"), meta("u1")))
        self.assertEqual(order(known, one(0), one(1)), "less")
        self.assertEqual(order(known, one(1), one(0)), "greater")
        self.assertEqual(order(known, one(0, -9), one(1, 3)), "less")
        self.asks(("order", one(0), one(1, -1)), order, known, one(0, 1), one(1))
        known = integers(1, ("less", meta("u0"), num(5)))
        self.assertEqual(order(known, integer(5), one(0)), "greater")
        self.asks(("order", one(0), integer(4)), order, known, one(0), integer(4))

    def test_certain_distances(self):
        known = integers(4, ("equal", meta("u1"), ("sum", "u0", 3)), ("equal", meta("u3"), num(7)))
        self.assertEqual(order(known, one(1), one(0, 3)), "equal")
        self.assertEqual(order(known, one(1), one(0, 4)), "less")
        self.assertEqual(order(known, total(0, (1, 5), (0, -5)), integer(14)), "greater")
        self.asks(("order", one(0), integer(2)), order, known, one(1), integer(5))
        self.asks(("order", one(2), one(0, 3)), order, known, one(2), one(1))
        self.assertEqual(order(known, total(0, (3, 2)), integer(13)), "greater")
        self.asks(("order", one(2), integer(-4)), order, known, one(2), total(-11, (3, 1)))
        self.asks(("order", one(0), integer(2)), order, known, total(0, (0, 2), (1, -1)), integer(-1))

    def test_distances_that_several_conditions_give(self):
        between = (("less", ("sum", "u0", 2), meta("u1")), ("less", meta("u1"), ("sum", "u0", 5)))
        apart = ("not", ("equal", meta("u1"), ("sum", "u0", 4)))
        self.assertRaises(Undecided, order, integers(2, *between), total(0, (0, 1), (1, 1)), integer(0))
        self.asks(("order", one(1), one(0, 3)), order, integers(2, *between), one(1), one(0, 3))
        self.assertEqual(order(integers(2, *between, apart), one(1), one(0, 3)), "equal")

    def test_orders_that_are_left(self):
        known = integers(2, ("not", ("equal", meta("u0"), num(5))), ("not", ("equal", meta("u1"), meta("u0"))))
        self.assertEqual([answer for answer, _ in answers(LANGUAGE, known, ("order", one(0), integer(5)))], ["less", "greater"])
        self.assertEqual([answer for answer, _ in answers(LANGUAGE, known, ("order", one(1), one(0)))], ["less", "greater"])
        known = known.with_condition(("less", meta("u0"), num(6))).with_condition(("less", num(3), meta("u0")))
        self.assertEqual(order(known, one(0), integer(4)), "equal")
        self.asks(("order", one(1), integer(7)), order, known, one(1), total(3, (0, 1)))
        self.assertEqual([answer for answer, _ in answers(LANGUAGE, known, ("order", one(1), integer(4)))], ["less", "greater"])

    def test_the_smallest_unknown_is_taken(self):
        known = integers(4, ("equal", meta("u3"), ("sum", "u2", 1)), ("equal", meta("u2"), ("sum", "u1", 1)))
        self.asks(("order", one(1), integer(8)), order, known, one(3), integer(10))
        self.asks(("order", one(0), one(1, 2)), order, known, one(0), one(3))

    def test_answers(self):
        known = integers(2, ("less", meta("u0"), ("sum", "u1", 1)))
        listed = answers(LANGUAGE, known, ("order", one(0), one(1)))
        self.assertEqual([answer for answer, _ in listed], ["less", "equal"])
        for answer, more in listed:
            self.assertEqual(order(more, one(0), one(1)), answer)
        listed = answers(LANGUAGE, integers(1), ("order", one(0), integer(5)))
        self.assertEqual([(answer, more.conditions) for answer, more in listed], [
            ("less", (("less", meta("u0"), num(5)),)), ("equal", (("equal", meta("u0"), num(5)),)), ("greater", (("less", num(5), meta("u0")),))])
        listed = answers(LANGUAGE, integers(1), ("order", integer(0), one(0, -5)))
        self.assertEqual([order(more, integer(5), one(0)) for _, more in listed], ["less", "equal", "greater"])


class Names(Asking):
    """F7"""

    def known(self, sort):
        known, unknowns = Knowledge().fresh(3)
        for u in unknowns:
            known = known.with_sort(u, sort)
        return known

    def test_known_names_and_addresses(self):
        known = self.known("name")
        for first, second in ((name("a"), name("b")), (addr(1), addr(2))):
            self.assertTrue(is_same(known, first, first))
            self.assertFalse(is_same(known, first, second))
        self.assertTrue(is_same(known, unknown(1), unknown(1)))

    def test_asking(self):
        for sort, given in (("name", name("a")), ("address", addr(1))):
            known = self.known(sort)
            for first, second in ((unknown(0), given), (given, unknown(0)), (unknown(1), unknown(0))):
                self.asks(("same", first, second), is_same, known, first, second)
                listed = answers(LANGUAGE, known, ("same", first, second))
                self.assertEqual([answer for answer, _ in listed], ["yes", "no"])
                for answer, more in listed:
                    self.assertIs(is_same(more, first, second), answer == "yes")
                    self.assertIs(is_same(more, second, first), answer == "yes")

    def test_what_follows(self):
        known = self.known("name").with_condition(("equal", meta("u0"), name("a")))
        self.assertFalse(is_same(known, unknown(0), name("b")))
        self.assertTrue(is_same(known, unknown(0), name("a")))
        self.assertTrue(is_same(known.with_condition(("equal", meta("u0"), meta("u1"))), unknown(1), name("a")))
        self.assertFalse(is_same(known.with_condition(("not", ("equal", meta("u1"), name("a")))), unknown(1), unknown(0)))
        known = self.known("name").with_sort(2, "map").with_condition(("has", "u2", meta("u0"))).with_condition(("not", ("has", "u2", meta("u1"))))
        self.assertFalse(is_same(known, unknown(0), unknown(1)))

    def test_answers_that_are_not_possible(self):
        known = self.known("name").with_condition(("equal", meta("u0"), name("a")))
        self.assertEqual([answer for answer, _ in answers(LANGUAGE, known, ("same", unknown(0), name("a")))], ["yes"])
        self.assertEqual([answer for answer, _ in answers(LANGUAGE, known, ("same", unknown(0), name("b")))], ["no"])


class Maps(Asking):
    """F8"""

    def setUp(self):
        known, _ = Knowledge().fresh(4)
        self.known = known.with_sort(0, "map").with_sort(1, "name").with_sort(2, "name").with_sort(3, "map")

    def test_entries(self):
        mapping = ("map", None, ((name("a"), integer(1)), (name("b"), integer(2)), (name("a"), integer(3))))
        self.assertEqual(held(self.known, mapping, name("a")), integer(1))
        self.assertEqual(held(self.known, mapping, name("b")), integer(2))
        self.assertIsNone(held(self.known, mapping, name("c")))
        self.assertIsNone(held(self.known, ("map", None, ()), unknown(1)))

    def test_names_of_entries_are_asked_in_order(self):
        mapping = ("map", None, ((unknown(1), integer(1)), (name("b"), integer(2))))
        self.asks(("same", unknown(1), name("b")), held, self.known, mapping, name("b"))
        (_, yes), (_, no) = answers(LANGUAGE, self.known, ("same", unknown(1), name("b")))
        self.assertEqual(held(yes, mapping, name("b")), integer(1))
        self.assertEqual(held(no, mapping, name("b")), integer(2))
        self.asks(("same", unknown(1), name("c")), held, no, mapping, name("c"))
        self.asks(("same", unknown(1), unknown(2)), held, no, mapping, unknown(2))
        mapping = ("map", None, ((name("a"), integer(1)), (unknown(1), integer(2))))
        self.assertEqual(held(self.known, mapping, name("a")), integer(1))

    def test_unknown_maps(self):
        for asked in (name("a"), unknown(1)):
            self.asks(("has", 0, asked), held, self.known, ("map", 0, ()), asked)
            (yes, there), (no, missing) = answers(LANGUAGE, self.known, ("has", 0, asked))
            self.assertEqual((yes, no), ("yes", "no"))
            self.assertIsNone(held(missing, ("map", 0, ()), asked))
            self.asks(("get", 0, asked), held, there, ("map", 0, ()), asked)
            [(yes, got)] = answers(LANGUAGE, there, ("get", 0, asked))
            self.assertEqual((yes, got.many, got.worths[4]), ("yes", 5, True))
            self.assertEqual(held(got, ("map", 0, ()), asked), unknown(4))
            self.asks(("has", 3, asked), held, got, ("map", 3, ()), asked)
            self.assertEqual(answers(LANGUAGE, missing, ("has", 0, asked))[0][0], "no")

    def test_entries_on_an_unknown_map(self):
        mapping = ("map", 0, ((name("a"), integer(1)), (name("b"), integer(2))))
        self.assertEqual(held(self.known, mapping, name("b")), integer(2))
        self.asks(("has", 0, name("c")), held, self.known, mapping, name("c"))
        self.asks(("same", name("a"), unknown(1)), held, self.known, mapping, unknown(1))

    def test_what_was_got_before(self):
        known = self.known.with_condition(("has", "u0", name("a"))).with_got(0, name("a"))[0]
        known = known.with_condition(("has", "u0", meta("u1")))
        self.asks(("same", name("a"), unknown(1)), held, known, ("map", 0, ()), unknown(1))
        (_, yes), (_, no) = answers(LANGUAGE, known, ("same", name("a"), unknown(1)))
        self.assertEqual(held(yes, ("map", 0, ()), unknown(1)), unknown(4))
        self.asks(("get", 0, unknown(1)), held, no, ("map", 0, ()), unknown(1))

    def test_what_follows(self):
        known = self.known.with_condition(("has", "u0", name("a"))).with_condition(("not", ("has", "u0", meta("u1"))))
        self.assertIsNone(held(known, ("map", 0, ()), unknown(1)))
        known = known.with_condition(("equal", meta("u2"), meta("u1")))
        self.assertIsNone(held(known, ("map", 0, ()), unknown(2)))

    def test_a_map_that_an_unknown_is(self):
        self.asks(("has", 0, name("a")), held, self.known, unknown(0), name("a"))


class Shapes(Asking):
    """F5: shape and value"""

    def test_terms(self):
        for term, sort in ((integer(1), "integer"), (name("a"), "name"), (addr(1), "address"), (("map", 0, ()), "map"), (node("end"), "node")):
            self.assertEqual(shape(Knowledge(), term), sort)

    def test_unknowns(self):
        known, _ = Knowledge().fresh(2)
        self.asks(("shape", 1), shape, known, unknown(1))
        for sort in ("integer", "name", "address", "map"):
            self.assertEqual(shape(known.with_sort(1, sort), unknown(1)), sort)
        self.assertEqual(shape(known.with_constant(1, False), unknown(1)), "constant")
        self.assertEqual(shape(known.with_node(1, "pair", 2)[0], unknown(1)), "node")

    def test_value(self):
        known, _ = Knowledge().fresh(1)
        self.assertEqual([(answer, more.worths) for answer, more in answers(LANGUAGE, known, ("value", 0))], [("yes", {0: True}), ("no", {0: False})])
        self.assertEqual([answer for answer, _ in answers(LANGUAGE, known.with_worth(0, False), ("value", 0))], ["no"])

    def test_all_shapes(self):
        sorts = ["integer", "name", "address", "map"]
        plain = [("node", row[0]) for row in LANGUAGE.constructors if row[2] == "plain"]
        values = [("node", row[0]) for row in LANGUAGE.constructors if row[2] == "value"]
        places = [("node", row[0], place) for row in LANGUAGE.constructors if row[2] == "value" for place in row[3]]
        known, _ = Knowledge().fresh(1)
        listed = [answer for answer, _ in answers(LANGUAGE, known, ("shape", 0))]
        self.assertEqual(listed[:10], sorts + [("node", "pair"), ("node", "pair", 0), ("node", "pair", 1), ("node", "swap"), ("node", "swap", 1), ("node", "swap", 0)])
        self.assertEqual(listed[10:14], [("node", "box"), ("node", "none"), ("node", "s"), ("node", "s", 0)])
        self.assertEqual(listed[14:], plain + ["a value", "no value"])
        listed = [answer for answer, _ in answers(LANGUAGE, known.with_worth(0, True), ("shape", 0))]
        self.assertEqual(listed, sorts + values + ["a value"])
        listed = [answer for answer, _ in answers(LANGUAGE, known.with_worth(0, False), ("shape", 0))]
        self.assertEqual(listed, places + plain + ["no value"])

    def test_what_the_answers_tell(self):
        known, _ = Knowledge().fresh(3)
        told_by = {answer: more for answer, more in answers(LANGUAGE, known, ("shape", 1))}
        for sort in ("integer", "name", "address", "map"):
            self.assertEqual((told_by[sort].sorts, told_by[sort].worths, told_by[sort].many), ({1: sort}, {1: True}, 3))
        self.assertEqual((told_by["a value"].sorts, told_by["a value"].worths), ({1: "constant"}, {1: True}))
        self.assertEqual((told_by["no value"].sorts, told_by["no value"].worths), ({1: "constant"}, {1: False}))
        more = told_by["node", "swap"]
        self.assertEqual((more.sorts, more.worths, more.many), ({1: ("node", "swap", (3, 4))}, {1: True, 3: True, 4: True}, 5))
        more = told_by["node", "swap", 1]
        self.assertEqual((more.sorts, more.worths), ({1: ("node", "swap", (3, 4))}, {1: False, 4: False}))
        more = told_by["node", "swap", 0]
        self.assertEqual((more.sorts, more.worths), ({1: ("node", "swap", (3, 4))}, {1: False, 4: True, 3: False}))
        more = told_by["node", "box"]
        self.assertEqual((more.sorts, more.worths), ({1: ("node", "box", (3,))}, {1: True}))
        more = told_by["node", "add"]
        self.assertEqual((more.sorts, more.worths), ({1: ("node", "add", (3, 4))}, {1: False}))

    def test_shapes_that_conditions_leave(self):
        known = Knowledge().fresh(2)[0].with_condition(("equal", meta("u0"), meta("u1")))
        self.assertEqual([answer for answer, _ in answers(LANGUAGE, known, ("shape", 0))], ["integer", "name", "address"])
        known = known.with_condition(("not", ("equal", meta("u0"), num(1)))).with_worth(0, True)
        self.assertEqual([answer for answer, _ in answers(LANGUAGE, known, ("shape", 0))], ["integer", "name", "address"])
        known = Knowledge().fresh(2)[0].with_worth(0, True).with_condition(("not", ("equal", meta("u0"), num(1))))
        self.assertEqual(answers(LANGUAGE, known, ("shape", 0))[-1][0], "a value")

    def test_nothing_is_changed(self):
        known = integers(2, ("less", meta("u0"), num(9))).fresh(2)[0].with_sort(2, "map")
        before = told(known)
        for question in (("value", 3), ("value", 0), ("shape", 3), ("order", one(0), one(1)), ("has", 2, name("a")), ("get", 2, name("a"))):
            first, second = answers(LANGUAGE, known, question), answers(LANGUAGE, known, question)
            self.assertEqual([(answer, told(more)) for answer, more in first], [(answer, told(more)) for answer, more in second])
            for _, more in first:
                more.sorts.clear()
                more.worths.clear()
            self.assertEqual(told(known), before)
        for _ in range(2):
            self.asks(("order", one(0), one(1)), order, known, one(0), one(1))
        self.assertEqual(told(known), before)


if __name__ == "__main__":
    unittest.main()
