"""passproven.machines: the promises C6 to C11."""

import unittest

from building import chain, node, num, wide
from passproven.machines import Machine, machine_run
from passproven.stepping import first_state, run, step, trace
from samples import PROGRAMS, language, term

LANGUAGE = language()


def machine(text):
    return Machine(LANGUAGE, term(text))


def moved(text, moves):
    made = machine(text)
    for _ in range(moves):
        made.move()
    return made


class Beginning(unittest.TestCase):
    """C6"""

    def test_beginning(self):
        for text in PROGRAMS:
            begun = machine(text)
            self.assertEqual((begun.focus, begun.gives), (term(text), False))
            self.assertEqual((begun.store, begun.out, begun.moves, begun.contractions), ((), (), 0, ()))
            self.assertEqual(begun.waits(), ())
            self.assertEqual(begun.state(), first_state(term(text)))


class Moves(unittest.TestCase):
    """C7, C8 and C9"""

    def check(self, found, focus, gives, waits):
        self.assertEqual((found.focus, found.gives, found.waits()), (term(focus), gives, waits))

    def test_what_is_no_node_is_given(self):
        for text in ("5", "'a", "@3", "{'a 5}", "{}"):
            self.check(moved(text, 1), text, True, ())
            self.assertEqual(moved(text, 1).moves, 1)

    def test_nodes_wait_in_the_order_of_evaluation(self):
        self.check(moved("(add 1 2)", 1), "1", False, (("add", 0),))
        self.check(moved("(back 1 2)", 1), "2", False, (("back", 1),))
        self.check(moved("(mid 1 loop 2)", 1), "2", False, (("mid", 2),))
        self.check(moved("(s (back 1 (s 2)))", 3), "2", False, (("s", 0), ("back", 1), ("s", 0)))

    def test_all_moves(self):
        self.check(moved("(back 1 2)", 2), "2", True, (("back", 1),))
        self.check(moved("(back 1 2)", 3), "1", False, (("back", 0),))
        self.check(moved("(back 1 2)", 4), "1", True, (("back", 0),))
        self.check(moved("(back 1 2)", 5), "(pair 2 1)", False, ())
        self.assertEqual(moved("(back 1 2)", 4).contractions, ())
        self.assertEqual(moved("(back 1 2)", 5).contractions, ((5, "turn", ()),))

    def test_values_are_evaluated_too(self):
        self.check(moved("(pair 1 2)", 1), "1", False, (("pair", 0),))
        self.check(moved("(pair 1 2)", 3), "2", False, (("pair", 1),))
        self.check(moved("(pair 1 2)", 5), "(pair 1 2)", True, ())
        self.assertEqual(machine_run(LANGUAGE, term("(pair 1 2)"), moves=99)[1].moves, 5)
        self.check(moved("(swap 1 2)", 1), "2", False, (("swap", 1),))

    def test_nodes_without_strict_arguments(self):
        self.check(moved("none", 1), "none", True, ())
        self.check(moved("(box (add 1 2))", 1), "(box (add 1 2))", True, ())
        self.check(moved("(quote (add 1 2))", 1), "(box (add 1 2))", False, ())
        self.assertEqual(moved("(quote (add 1 2))", 1).contractions, ((1, "quote", ()),))
        self.check(moved("loop", 3), "loop", False, ())
        self.assertEqual(moved("loop", 3).contractions, ((1, "loop", ()), (2, "loop", ()), (3, "loop", ())))

    def test_what_is_given_takes_its_place(self):
        found = moved("(pair (add 1 2) (add 3 4))", 7)
        self.check(found, "3", True, (("pair", 0),))
        found.move()
        self.check(found, "(add 3 4)", False, (("pair", 1),))
        self.assertEqual(found.state(), (term("(pair 3 (add 3 4))"), (), ()))

    def test_actions(self):
        _, made = machine_run(LANGUAGE, term("(seq (cell (out 4)) (seq (keep @0 6) (load @0)))"), moves=99)
        self.assertEqual((made.store, made.out), ((term("(pair 6 @0)"),), (5,)))
        self.assertEqual(made.focus, term("(pair (pair 6 @0) @0)"))
        self.assertEqual([row[1:] for row in made.contractions], [("out", (0, 0)), ("cell", (0,)), ("seq", ()),
                                                                 ("keep", (0,)), ("seq", ()), ("load", ())])


class Ends(unittest.TestCase):
    """C10"""

    def check(self, text, end):
        found = machine(text)
        while found.end() is None:
            found.move()
        self.assertEqual(found.end(), end)
        told = (found.focus, found.gives, found.store, found.out, found.moves, found.contractions, found.waits(),
                found.state())
        for _ in range(3):
            self.assertIsNone(found.move())
            self.assertEqual(found.end(), end)
            self.assertEqual(told, (found.focus, found.gives, found.store, found.out, found.moves, found.contractions,
                                    found.waits(), found.state()))
        return found

    def test_value(self):
        self.assertEqual(self.check("5", "value").moves, 1)
        found = self.check("(s (add 1 2))", "value")
        self.assertEqual((found.focus, found.gives, found.waits()), (term("(s 3)"), True, ()))

    def test_stuck(self):
        found = self.check("(pair 1 (add 1 'a))", "stuck")
        self.assertEqual((found.focus, found.gives), (term("'a"), True))
        self.assertEqual(found.waits(), (("add", 1), ("pair", 1)))
        self.assertEqual(found.state(), (term("(pair 1 (add 1 'a))"), (), ()))
        found = self.check("(s stop)", "stuck")
        self.assertEqual((found.focus, found.gives, found.waits()), (term("stop"), False, (("s", 0),)))
        found = self.check("stop", "stuck")
        self.assertEqual((found.moves, found.gives), (0, False))

    def test_nothing_stored(self):
        found = self.check("(load @0)", "stuck")
        self.assertEqual((found.focus, found.gives, found.waits()), (term("@0"), True, (("load", 0),)))
        found = self.check("(seq (cell 1) (keep @1 2))", "stuck")
        self.assertEqual((found.focus, found.waits(), found.store), (term("2"), (("keep", 1),), (num(1),)))
        self.assertEqual(self.check("first", "stuck").moves, 0)
        self.assertEqual(self.check("(add 'no 1)", "stuck").contractions, ())

    def test_large(self):
        found = self.check("(pair (add 999999999999999 1) 2)", "large")
        self.assertEqual((found.focus, found.gives), (num(1), True))
        self.assertEqual(found.waits(), (("add", 1), ("pair", 0)))
        found = self.check("(seq (out 1) (out 999999999999999))", "large")
        self.assertEqual(found.out, (2,))
        found = self.check("(grow 0)", "large")
        self.assertEqual((found.waits(), found.focus), ((("grow", 0),), chain(99)))

    def test_large_parts_around(self):
        control = node("pair", wide(394), node("quote", num(1)))
        self.assertEqual(machine_run(LANGUAGE, control, moves=99)[0], "value")
        control = node("pair", wide(394), node("quote", node("pair", num(1), num(1))))
        self.assertEqual(machine_run(LANGUAGE, control, moves=99)[0], "value")
        control = node("pair", wide(395), node("quote", node("pair", num(1), num(1))))
        self.assertEqual(machine_run(LANGUAGE, control, moves=99)[0], "large")

    def test_a_large_program(self):
        self.assertEqual(machine_run(LANGUAGE, wide(900), moves=9)[0], "value")
        self.assertEqual(machine_run(LANGUAGE, node("s", wide(900)), moves=9)[0], "value")
        self.assertEqual(machine_run(LANGUAGE, node("quote", wide(900)), moves=9)[0], "large")


class Runs(unittest.TestCase):
    """machine_run"""

    def test_moves(self):
        for moves, end in ((0, "more"), (4, "more"), (5, "value"), (6, "value"), (99, "value")):
            found, made = machine_run(LANGUAGE, term("(pair 1 2)"), moves=moves)
            self.assertEqual((found, made.moves), (end, min(moves, 5)))

    def test_stuck(self):
        self.assertEqual(machine_run(LANGUAGE, term("stop"), moves=0)[0], "stuck")
        for moves, end in ((0, "more"), (1, "more"), (2, "stuck"), (3, "stuck")):
            found, made = machine_run(LANGUAGE, term("(load @0)"), moves=moves)
            self.assertEqual((found, made.moves), (end, min(moves, 2)))

    def test_large(self):
        for moves, end in ((3, "more"), (4, "more"), (5, "large")):
            found, made = machine_run(LANGUAGE, term("(add 999999999999999 1)"), moves=moves)
            self.assertEqual((found, made.moves), (end, min(moves, 4)))

    def test_same_question_same_answer(self):
        for text in PROGRAMS:
            one, other = [machine_run(LANGUAGE, term(text), moves=50) for _ in range(2)]
            self.assertEqual(one[0], other[0])
            self.assertEqual(one[1].state(), other[1].state())
            self.assertEqual(one[1].contractions, other[1].contractions)


class StandsFor(unittest.TestCase):
    """C11"""

    def test_contractions_are_the_steps(self):
        for text in PROGRAMS:
            made = machine(text)
            expected = first_state(term(text))
            seen = 0
            while made.end() is None and made.moves < 300:
                self.assertEqual(made.state(), expected, text)
                made.move()
                if len(made.contractions) > seen:
                    self.assertEqual(len(made.contractions), seen + 1)
                    number, rule, way = made.contractions[-1]
                    _, expected, *told = step(LANGUAGE, expected)
                    self.assertEqual((number, [rule, way]), (made.moves, told))
                    seen += 1
            self.assertEqual(made.state(), expected)
            self.assertEqual((made.state()[1], made.state()[2]), (made.store, made.out))
            rows = trace(LANGUAGE, term(text), steps=seen)
            self.assertEqual([row[1:] for row in made.contractions], [row[:2] for row in rows])
            if made.end() is not None:
                self.assertEqual(run(LANGUAGE, term(text), steps=seen + 1), (made.end(), seen, made.state()))

    def test_two_machines_do_not_disturb_each_other(self):
        one, other = machine("(add (add 1 2) 3)"), machine("(add (add 1 2) 3)")
        for _ in range(6):
            one.move()
        self.assertEqual((other.moves, other.state()), (0, (term("(add (add 1 2) 3)"), (), ())))


if __name__ == "__main__":
    unittest.main()
