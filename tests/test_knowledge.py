"""passproven.knowledge: the promises F3 and F4."""

import unittest

from building import addr, meta, name, node, num, told, unknown
from passproven.knowledge import Knowledge, operand, word
from passproven.unknowns import integer


def some(many=4):
    return Knowledge().fresh(many)[0]


class Telling(unittest.TestCase):
    """F3"""

    def test_nothing_is_known(self):
        self.assertEqual(told(Knowledge()), ({}, {}, (), {}, 0))

    def test_fresh(self):
        known, unknowns = Knowledge().fresh(3)
        self.assertEqual((known.many, unknowns), (3, [0, 1, 2]))
        known, unknowns = known.fresh(2)
        self.assertEqual((known.many, unknowns), (5, [3, 4]))
        self.assertEqual(known.fresh(0)[1], [])

    def test_worths(self):
        known = some().with_worth(0, True).with_worth(1, False)
        self.assertEqual(known.worths, {0: True, 1: False})

    def test_sorts(self):
        for sort in ("integer", "name", "address", "map"):
            known = some().with_sort(2, sort)
            self.assertEqual(known.sorts, {2: sort})
            self.assertEqual(known.sort_of(unknown(2)), sort)
            self.assertIsNone(known.sort_of(unknown(1)))

    def test_constants(self):
        for is_value in (True, False):
            known = some().with_constant(1, is_value)
            self.assertEqual((known.sorts, known.worths), ({1: "constant"}, {1: is_value}))
            self.assertEqual(known.sort_of(unknown(1)), "constant")

    def test_nodes(self):
        known, inner = some(2).with_node(1, "pair", 2)
        self.assertEqual((inner, known.many, known.sorts), ([2, 3], 4, {1: ("node", "pair", (2, 3))}))
        self.assertEqual(known.sort_of(unknown(1)), "node")
        known, inner = known.with_node(0, "end", 0)
        self.assertEqual((inner, known.many), ([], 4))

    def test_sorts_of_terms(self):
        for term, sort in ((integer(1), "integer"), (name("a"), "name"), (addr(1), "address"), (("map", None, ()), "map"), (node("end"), "node")):
            self.assertEqual(Knowledge().sort_of(term), sort)

    def test_conditions(self):
        known = some().with_sort(0, "integer").with_condition(("less", meta("u0"), num(5)))
        self.assertEqual(known.conditions, (("less", meta("u0"), num(5)),))
        known = known.with_condition(("less", num(3), meta("u0")))
        self.assertEqual(len(known.conditions), 2)
        self.assertTrue(known.allows(("equal", meta("u0"), num(4))))
        self.assertFalse(known.allows(("equal", meta("u0"), num(5))))
        self.assertFalse(known.allows(("not", ("equal", meta("u0"), num(4)))))
        self.assertFalse(known.allows(("name", "u0")))
        self.assertTrue(known.allows(("name", "u1")))

    def test_what_sorts_and_worths_allow(self):
        known = some().with_sort(0, "name").with_worth(1, False).with_constant(2, True)
        known, _ = known.with_node(3, "end", 0)
        for sort in ("integer", "name", "address", "map"):
            self.assertEqual(known.allows((sort, "u0")), sort == "name")
            for other in ("u1", "u2", "u3"):
                self.assertFalse(known.allows((sort, other)))

    def test_conditions_of_several_cases(self):
        known = some(3).with_sort(0, "integer").with_condition(("not", ("equal", meta("u0"), num(5))))
        self.assertFalse(known.allows(("equal", meta("u0"), num(5))))
        self.assertTrue(known.allows(("less", meta("u0"), num(5))))
        self.assertTrue(known.allows(("less", num(5), meta("u0"))))
        self.assertFalse(known.allows(("equal", meta("u0"), name("a"))))
        known = known.with_condition(("equal", meta("u1"), meta("u2"))).with_sort(2, "address")
        self.assertTrue(known.allows(("address", "u1")))
        self.assertFalse(known.allows(("name", "u1")))

    def test_got(self):
        known = some(2).with_sort(0, "map")
        known, first = known.with_got(0, name("a"))
        known, second = known.with_got(0, unknown(1))
        self.assertEqual((first, second, known.many), (2, 3, 4))
        self.assertEqual(known.got, {0: [(name("a"), 2), (unknown(1), 3)]})
        self.assertEqual((known.worths[2], known.worths[3]), (True, True))
        self.assertFalse(known.allows(("not", ("has", "u0", name("a")))))

    def test_solution(self):
        known = some(5).with_sort(3, "integer").with_sort(1, "integer").with_sort(0, "name").with_sort(4, "map")
        self.assertEqual(known.solution(), {"u0": name("a"), "u1": num(0), "u3": num(0), "u4": ("map", ())})
        known = known.with_condition(("less", meta("u3"), meta("u1"))).with_condition(("has", "u4", name("a")))
        self.assertEqual(known.solution(), {"u0": name("b"), "u1": num(0), "u3": num(-1), "u4": ("map", (("a", num(0)),))})
        self.assertIsNone(known.with_condition(("less", meta("u1"), meta("u3"))).solution())
        self.assertEqual(known.with_constant(2, True).with_node(2, "f", 3)[0].with_worth(5, False).solution(), known.solution())
        self.assertEqual(Knowledge().solution(), {})


class Looking(unittest.TestCase):
    """F4"""

    def setUp(self):
        known = some(6).with_sort(0, "integer").with_sort(1, "name").with_sort(2, "map").with_constant(3, True)
        self.known, _ = known.with_node(4, "pair", 2)

    def test_looked(self):
        self.assertEqual(self.known.looked(unknown(0)), ("sum", ((0, 1),), 0))
        self.assertEqual(self.known.looked(unknown(1)), unknown(1))
        self.assertEqual(self.known.looked(unknown(2)), ("map", 2, ()))
        self.assertEqual(self.known.looked(unknown(3)), unknown(3))
        self.assertEqual(self.known.looked(unknown(4)), node("pair", unknown(6), unknown(7)))
        self.assertEqual(self.known.looked(unknown(5)), unknown(5))

    def test_other_terms_stay(self):
        for term in (integer(5), name("a"), addr(1), ("map", 2, ()), node("pair", unknown(0), unknown(4))):
            self.assertEqual(self.known.looked(term), term)

    def test_through_templates(self):
        seen = self.known.through({"pair": (("a", "b"), node("join", meta("b"), node("box", meta("a"), num(5))))})
        self.assertEqual(seen.looked(unknown(4)), node("join", unknown(7), node("box", unknown(6), integer(5))))
        self.assertEqual(seen.looked(unknown(0)), ("sum", ((0, 1),), 0))
        self.assertEqual(seen.looked(unknown(2)), ("map", 2, ()))
        self.assertEqual((seen.sort_of(unknown(4)), told(seen)), ("node", told(self.known)))
        self.assertEqual(seen.through(None).looked(unknown(4)), node("pair", unknown(6), unknown(7)))
        templates = {"pair": (("a", "b"), node("join", meta("b"), meta("a")))}
        seen = self.known.through(templates)
        templates.clear()
        more, _ = seen.fresh(1)
        self.assertEqual(more.with_worth(5, True).looked(unknown(4))[1], "join")


class Staying(unittest.TestCase):
    """0.3"""

    def test_all_methods_leave_it_as_it_is(self):
        known = some(4).with_sort(0, "map").with_sort(1, "integer").with_condition(("less", meta("u1"), num(3)))
        known, _ = known.with_got(0, name("a"))
        before = told(known)
        known.through({"f": ((), node("end"))})
        known.fresh(2)
        known.with_worth(2, False)
        known.with_sort(2, "name")
        known.with_constant(2, True)
        known.with_condition(("integer", "u2"))
        known.with_node(2, "f", 3)
        known.with_got(0, name("b"))
        known.with_got(2, name("b"))
        known.allows(("integer", "u2"))
        known.solution()
        known.looked(unknown(0))
        known.sort_of(unknown(0))
        self.assertEqual(told(known), before)

    def test_what_was_returned_may_be_changed(self):
        known = some(4).with_sort(0, "map")
        known, _ = known.with_got(0, name("a"))
        before = told(known)
        for other in (known.through(None), known.fresh(0)[0], known.with_worth(1, True), known.with_sort(1, "integer"), known.with_constant(1, True),
                      known.with_condition(("map", "u0")), known.with_node(1, "f", 0)[0], known.with_got(0, name("b"))[0]):
            other.sorts.clear()
            other.worths.clear()
            other.got[0].clear()
            self.assertEqual(told(known), before)
        known.fresh(3)[1].append(7)
        known.solution().clear()
        self.assertEqual(known.fresh(3)[1], [5, 6, 7])
        self.assertEqual(known.solution(), {"u0": ("map", (("a", num(0)),))})


class Operands(unittest.TestCase):
    def test_word(self):
        self.assertEqual([word(0), word(12)], ["u0", "u12"])

    def test_operand(self):
        self.assertEqual(operand(name("a")), name("a"))
        self.assertEqual(operand(addr(5)), addr(5))
        self.assertEqual(operand(unknown(7)), meta("u7"))
        self.assertEqual(operand(integer(7)), num(7))
        self.assertEqual(operand(("sum", ((3, 1),), 0)), meta("u3"))
        self.assertEqual(operand(("sum", ((3, 1),), -4)), ("sum", "u3", -4))


if __name__ == "__main__":
    unittest.main()
