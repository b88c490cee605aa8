"""passproven.stepping: the promises C1 to C5."""

import unittest

from building import addr, chain, mapping, name, node, num, wide
from passproven.constructors import is_value
from passproven.languages import read_language
from passproven.stepping import first_state, is_large, redex, run, step, trace
from passproven.terms import size
from samples import PROGRAMS, language, term

LANGUAGE = language()


def part_at(control, way):
    for place in way:
        control = control[2][place]
    return control


class FirstState(unittest.TestCase):
    """C1"""

    def test_first_state(self):
        for text in PROGRAMS:
            self.assertEqual(first_state(term(text)), (term(text), (), ()))


class Redex(unittest.TestCase):
    """C2"""

    def check(self, text, way, found):
        self.assertEqual(redex(LANGUAGE, term(text)), (way, term(found)))

    def test_values(self):
        for text in ("5", "'a", "@3", "{'a 5}", "{}", "none", "(pair 1 none)", "(box loop)", "(s (box (add 1 2)))"):
            self.assertIsNone(redex(LANGUAGE, term(text)), text)
        self.assertIsNone(redex(LANGUAGE, chain(60)))

    def test_the_control_itself(self):
        for text in ("(add 1 2)", "loop", "stop", "(quote (add 1 2))", "(seq 1 (add 1 2))", "(add (box loop) 'a)"):
            self.check(text, (), text)

    def test_order_of_evaluation(self):
        self.check("(add (add 1 2) (add 3 4))", (0,), "(add 1 2)")
        self.check("(add 5 (add 3 4))", (1,), "(add 3 4)")
        self.check("(back (add 1 2) (add 3 4))", (1,), "(add 3 4)")
        self.check("(back (add 1 2) 7)", (0,), "(add 1 2)")
        self.check("(mid (add 1 2) loop (add 3 4))", (2,), "(add 3 4)")
        self.check("(mid (add 1 2) loop 7)", (0,), "(add 1 2)")
        self.check("(mid 1 loop 7)", (), "(mid 1 loop 7)")

    def test_way(self):
        self.check("(pair 1 (swap (add (s loop) loop) none))", (1, 0, 0, 0), "loop")
        self.check("(seq (mid (box loop) loop (s (back loop 1))) loop)", (0, 2, 0, 0), "loop")
        self.assertEqual(redex(LANGUAGE, chain(60, node("stop"))), ((0,) * 60, node("stop")))

    def test_redex_of_all_programs(self):
        for text in PROGRAMS:
            control = term(text)
            found = redex(LANGUAGE, control)
            self.assertEqual(found is None, is_value(LANGUAGE, control))
            if found is not None:
                way, inner = found
                self.assertEqual(part_at(control, way), inner)
                _, _, kind, strict = LANGUAGE.constructor(inner[1])
                self.assertEqual(kind, "plain")
                self.assertTrue(all(is_value(LANGUAGE, inner[2][place]) for place in strict))


class Step(unittest.TestCase):
    """C3"""

    def check(self, before, store, out, after, store_after, out_after, rule, way):
        state = (term(before), tuple(term(text) for text in store), out)
        expected = (term(after), tuple(term(text) for text in store_after), out_after)
        self.assertEqual(step(LANGUAGE, state), ("next", expected, rule, way))

    def test_value(self):
        self.assertEqual(step(LANGUAGE, (num(1), (), ())), ("value",))
        self.assertEqual(step(LANGUAGE, (term("(box loop)"), (num(1),), (5,))), ("value",))

    def test_without_action(self):
        self.check("(add 1 2)", ["7"], (8,), "3", ["7"], (8,), "sum", ())
        self.check("(pair none (s (add 1 2)))", [], (), "(pair none (s 3))", [], (), "sum", (1, 0))
        self.check("(seq 1 (add 1 2))", [], (), "(add 1 2)", [], (), "seq", ())
        self.check("loop", [], (), "loop", [], (), "loop", ())

    def test_new(self):
        self.check("(cell 5)", [], (), "(pair @0 5)", ["5"], (), "cell", ())
        self.check("(s (cell (box loop)))", ["1", "2"], (3,), "(s (pair @2 (box loop)))", ["1", "2", "(box loop)"], (3,),
                   "cell", (0,))

    def test_read(self):
        self.check("(load @0)", ["5"], (), "(pair 5 @0)", ["5"], (), "load", ())
        self.check("(s (load @1))", ["5", "(box loop)"], (1,), "(s (pair (box loop) @1))", ["5", "(box loop)"], (1,),
                   "load", (0,))
        self.check("first", ["5"], (), "5", ["5"], (), "first", ())

    def test_write(self):
        self.check("(keep @0 7)", ["5"], (), "7", ["(pair 7 @0)"], (), "keep", ())
        self.check("(keep @1 7)", ["5", "6", "4"], (1,), "7", ["5", "(pair 7 @1)", "4"], (1,), "keep", ())

    def test_put(self):
        self.check("(out 5)", [], (), "5", [], (6,), "out", ())
        self.check("(s (out -1))", ["1"], (7, 8), "(s -1)", ["1"], (7, 8, 0), "out", (0,))

    def test_stuck(self):
        for text in ("stop", "(add 'a 1)", "(pair 1 (add 1 none))", "(load 5)", "(out 'a)"):
            self.assertEqual(step(LANGUAGE, (term(text), (num(1),), ())), ("stuck",), text)

    def test_nothing_stored(self):
        for text in ("(load @0)", "(keep @0 1)", "first", "(s (load @999999999))"):
            self.assertEqual(step(LANGUAGE, (term(text), (), ())), ("stuck",), text)
        for text in ("(load @1)", "(keep @1 1)"):
            self.assertEqual(step(LANGUAGE, (term(text), (num(5),), ())), ("stuck",), text)

    def test_no_other_rule_is_tried(self):
        self.assertEqual(step(LANGUAGE, (term("(add 'no 1)"), (num(5),) * 7, ())), ("stuck",))
        self.check("(add 'no 1)", ["5"] * 8, (), "0", ["5"] * 8, (), "nothing", ())

    def test_integers_are_exact(self):
        state = (node("add", num(10 ** 40), num(1)), (), ())
        self.assertEqual(step(LANGUAGE, state)[1][0], num(10 ** 40 + 1))

    def test_the_first_rule_is_taken(self):
        tongue = read_language([("f", 1, "plain", [0])], [("no", "(f 1)", [], "", "10"), ("a", "(f 2)", [], "", "20"),
                                                         ("b", "(f $x)", [], "", "30"), ("c", "(f 3)", [], "", "40")])
        for number, rule in ((1, "no"), (2, "a"), (3, "b"), (4, "b")):
            self.assertEqual(step(tongue, first_state(node("f", num(number))))[2], rule)

    def test_arguments_stay(self):
        state = (term("(s (cell 5))"), (num(1),), (2,))
        first = step(LANGUAGE, state)
        self.assertEqual(state, (term("(s (cell 5))"), (num(1),), (2,)))
        self.assertEqual(step(LANGUAGE, state), first)


class Large(unittest.TestCase):
    """C4"""

    def test_terms(self):
        self.assertEqual(size(wide(399)), 400)
        self.assertFalse(is_large((wide(399), (), ())))
        self.assertTrue(is_large((wide(400), (), ())))
        self.assertFalse(is_large((wide(197), (num(1), wide(200)), ())))
        self.assertTrue(is_large((wide(197), (num(1), wide(201)), ())))
        self.assertFalse(is_large((num(1), (num(1),) * 399, ())))
        self.assertTrue(is_large((num(1), (num(1),) * 400, ())))
        self.assertFalse(is_large((num(1), (), tuple(range(1000)))))

    def test_height(self):
        self.assertFalse(is_large((chain(100), (), ())))
        self.assertTrue(is_large((chain(101), (), ())))
        self.assertFalse(is_large((num(1), (num(1), chain(100)), ())))
        self.assertTrue(is_large((num(1), (num(1), chain(101)), ())))
        self.assertTrue(is_large((num(1), (chain(100, mapping(a=num(1))),), ())))

    def test_digits(self):
        low, high = 10 ** 15 - 1, 10 ** 15
        for sign in (1, -1):
            self.assertFalse(is_large((num(low * sign), (num(low * sign),), (low * sign,))))
            self.assertTrue(is_large((num(high * sign), (), ())))
            self.assertTrue(is_large((num(0), (num(0), num(high * sign)), ())))
            self.assertTrue(is_large((num(0), (), (0, high * sign, 0))))
            self.assertTrue(is_large((mapping(a=node("box", num(high * sign))), (), ())))
        self.assertFalse(is_large((addr(high), (addr(high),), ())))


class Run(unittest.TestCase):
    """C5"""

    def check(self, text, steps, end, count, after, store=(), out=()):
        expected = (end, count, (term(after), tuple(term(cell) for cell in store), out))
        self.assertEqual(run(LANGUAGE, term(text), steps=steps), expected)

    def test_value(self):
        self.check("5", 0, "value", 0, "5")
        self.check("(box loop)", 9, "value", 0, "(box loop)")
        self.check("(add (add 1 2) (add 3 4))", 9, "value", 3, "10")
        self.check("(back (out 1) (out 2))", 9, "value", 3, "(pair 2 1)", (), (3, 2))
        self.check("(seq (cell 5) (seq (keep @0 7) (load @0)))", 9, "value", 5, "(pair (pair 7 @0) @0)", ["(pair 7 @0)"])

    def test_exactly_as_many_steps(self):
        text = "(add (add 1 2) (add 3 4))"
        self.check(text, 3, "value", 3, "10")
        self.check(text, 2, "more", 2, "(add 3 7)")
        self.check(text, 0, "more", 0, text)

    def test_stuck(self):
        self.check("stop", 0, "stuck", 0, "stop")
        self.check("(pair (add 1 2) stop)", 1, "stuck", 1, "(pair 3 stop)")
        self.check("(pair (add 1 2) stop)", 0, "more", 0, "(pair (add 1 2) stop)")
        self.check("(pair (add 1 2) stop)", 5, "stuck", 1, "(pair 3 stop)")
        self.check("(seq (out 1) (load @0))", 9, "stuck", 2, "(load @0)", (), (2,))

    def test_more(self):
        self.check("loop", 50, "more", 50, "loop")
        self.check("(count 0)", 6, "more", 6, "(count 2)", (), (1, 2))

    def test_large_integers(self):
        self.check("(add 999999999999999 1)", 5, "large", 0, "(add 999999999999999 1)")
        self.check("(add 999999999999999 0)", 5, "value", 1, "999999999999999")
        self.check("(add -999999999999999 -1)", 5, "large", 0, "(add -999999999999999 -1)")
        self.check("(seq (out 5) (out 999999999999999))", 5, "large", 2, "(out 999999999999999)", (), (6,))

    def test_a_large_step_that_may_not_be_made(self):
        self.check("(add 999999999999999 1)", 0, "more", 0, "(add 999999999999999 1)")

    def test_large_heights(self):
        end, count, state = run(LANGUAGE, term("(grow 0)"), steps=1000)
        self.assertEqual((end, count, state), ("large", 99, (node("grow", chain(99)), (), ())))

    def test_large_sizes(self):
        end, count, state = run(LANGUAGE, term("(cell " + "(twice " * 8 + "1" + ")" * 9), steps=1000)
        self.assertEqual((end, count), ("large", 7))
        self.assertEqual(size(state[0]), 1 + 1 + 255)

    def test_the_first_state_may_be_large(self):
        for control in (chain(60, wide(500)), num(10 ** 20), node("pair", wide(300), wide(300))):
            self.assertEqual(run(LANGUAGE, control, steps=5), ("value", 0, (control, (), ())))
        control = node("add", num(10 ** 20), num(-10 ** 20))
        self.assertEqual(run(LANGUAGE, control, steps=5), ("value", 1, (num(0), (), ())))
        control = node("pair", node("add", num(1), num(1)), wide(500))
        self.assertEqual(run(LANGUAGE, control, steps=5), ("large", 0, (control, (), ())))

    def test_trace(self):
        rows = trace(LANGUAGE, term("(back (out 1) (add 1 1))"), steps=9)
        self.assertEqual(rows, (("sum", (1,), term("(back (out 1) 2)")), ("out", (0,), term("(back 1 2)")),
                                ("turn", (), term("(pair 2 1)"))))
        self.assertEqual(trace(LANGUAGE, term("(back (out 1) (add 1 1))"), steps=2), rows[:2])
        self.assertEqual(trace(LANGUAGE, term("5"), steps=9), ())
        self.assertEqual(trace(LANGUAGE, term("loop"), steps=0), ())
        self.assertEqual(len(trace(LANGUAGE, term("(grow 0)"), steps=1000)), 99)

    def test_runs_make_the_steps(self):
        for text in PROGRAMS:
            for steps in (0, 1, 2, 3, 25):
                end, count, state = run(LANGUAGE, term(text), steps=steps)
                rows = trace(LANGUAGE, term(text), steps=steps)
                self.assertEqual(len(rows), count)
                present = first_state(term(text))
                for rule, way, control in rows:
                    told = step(LANGUAGE, present)
                    present = told[1]
                    self.assertEqual(told, ("next", (control, present[1], present[2]), rule, way))
                    self.assertFalse(is_large(present))
                self.assertEqual(present, state)
                told = step(LANGUAGE, state)
                if end in ("value", "stuck"):
                    self.assertEqual(told, (end,))
                else:
                    self.assertEqual((told[0], end), ("next", "more" if count == steps else "large"))
                    self.assertTrue(end == "more" or is_large(told[1]))
                self.assertEqual(run(LANGUAGE, term(text), steps=steps), (end, count, state))

    def test_long_runs(self):
        end, count, state = run(LANGUAGE, term("(count 0)"), steps=3000)
        self.assertEqual((end, count, state[2]), ("more", 3000, tuple(range(1, 1001))))


class Maps(unittest.TestCase):
    """C2 and C4 with maps and names"""

    def test_what_is_in_a_map_is_not_evaluated(self):
        self.assertIsNone(redex(LANGUAGE, mapping(a=name("b"))))
        self.assertEqual(redex(LANGUAGE, node("add", mapping(a=num(1)), node("loop"))), ((1,), node("loop")))


if __name__ == "__main__":
    unittest.main()
