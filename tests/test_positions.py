"""passproven.positions: the promises I5 to I8."""

import unittest

from building import node, num, rows_of, wide
from passproven.errors import PassError, TooLarge
from passproven.languages import read_language
from passproven.positions import NoPosition, Session
from passproven.sides import follow
from walking import PROGRAMS, ROWS, SOURCE, TARGET, changed_target, term

# Two steps for sum, one for seq and out, three for less and none: the target steps are 0, 2, 3, 6, 9, 10, 11.
LONG = "(seq (add (num 1) (num 2)) (seq (down (num 1)) (out (num 7))))"
RULES = ["sum", "seq", "less", "none", "seq", "out", None]
STEPS = [0, 2, 3, 6, 9, 10, 11]


class Sessions(unittest.TestCase):
    def session(self, text=LONG, target=TARGET, **more):
        return Session(SOURCE, target, ROWS, term(text), **{"most": 3, **more})

    def no_position(self, last, end, method, *arguments):
        with self.assertRaises(NoPosition) as caught:
            method(*arguments)
        self.assertEqual((caught.exception.last, caught.exception.end), (last, end))
        self.assertEqual(NoPosition.__bases__, (PassError,))


class Positions(Sessions):
    """I5 and I6"""

    def test_the_beginning(self):
        session = self.session()
        self.assertEqual((session.position, session.rule(), session.target_steps()), (0, "sum", 0))
        self.assertEqual(session.state(), (term(LONG), (), ()))
        self.assertEqual(session.image()[0][1], "then")

    def test_all_positions(self):
        session = self.session()
        for position in range(7):
            session.go(position)
            found = follow(SOURCE, TARGET, ROWS, term(LONG), most=3, steps=position)
            self.assertEqual((session.state(), session.image()), found[2:])
            self.assertEqual((session.position, session.rule(), session.target_steps()), (position, RULES[position], STEPS[position]))
        self.assertEqual(session.end(), (6, "value"))

    def test_the_same_in_any_order(self):
        for text in PROGRAMS:
            ordered, jumping = self.session(text, limit=12), self.session(text, limit=12)
            last, word = ordered.end()
            self.assertEqual((word, last), (follow(SOURCE, TARGET, ROWS, term(text), most=3, steps=12)[0], last))
            told = {}
            for position in range(last + 1):
                ordered.go(position)
                told[position] = (ordered.state(), ordered.image(), ordered.rule(), ordered.target_steps())
            for position in list(range(last + 1))[::-1] + list(range(0, last + 1, 2)):
                jumping.go(position)
                self.assertEqual((jumping.state(), jumping.image(), jumping.rule(), jumping.target_steps()), told[position])
                self.assertEqual(jumping.rule(), jumping.rule_at(position))

    def test_the_end(self):
        for text, last, word in (("5", 0, "value"), ("stop", 0, "stuck"), ("(seq (out (num 1)) stop)", 2, "stuck"), ("loop", 100, "more"),
                                 ("(grow 0)", 99, "large"), ("(add (num 999999999999999) (num 1))", 0, "large"), ("(down (num 2))", 3, "value")):
            session = self.session(text)
            for _ in range(2):
                self.assertEqual(session.end(), (last, word))
                self.assertEqual(session.position, 0)
        self.assertEqual(self.session(most=2).end(), (2, "parted"))
        self.assertEqual(self.session(most=1).end(), (0, "parted"))
        self.assertEqual(Session(SOURCE, TARGET, ROWS, term(LONG)).end(), (0, "parted"))
        self.assertEqual(Session(SOURCE, TARGET, ROWS, term("loop")).end(), (100, "more"))

    def test_rules(self):
        session = self.session()
        for position in (9, 6, 5, 0, 1, 100, 7, 3, 1000):
            self.assertEqual(session.rule_at(position), (RULES + [None] * 1000)[position])
            self.assertEqual(session.position, 0)
        parted = self.session(most=2)
        self.assertEqual([parted.rule_at(position) for position in range(4)], ["sum", "seq", None, None])
        self.assertIsNone(self.session("(grow 0)").rule_at(99))
        self.assertEqual(self.session("(grow 0)").rule_at(98), "grow")
        self.assertIsNone(self.session("stop").rule())
        self.assertIsNone(self.session("5").rule_at(0))

    def test_limits(self):
        for limit in range(9):
            session = self.session(limit=limit)
            self.assertEqual(session.end(), (min(limit, 6), "value" if limit >= 6 else "more"))
            self.assertEqual([session.rule_at(position) for position in range(9)], (RULES[:limit] + [None] * 9)[:9])
        session = self.session(limit=0)
        self.assertEqual((session.rule(), session.end(), session.target_steps()), (None, (0, "more"), 0))
        self.assertEqual(self.session("5", limit=0).end(), (0, "value"))
        self.assertEqual(self.session("stop", limit=0).end(), (0, "stuck"))
        self.assertEqual(self.session("(add (num 999999999999999) (num 1))", limit=0).end(), (0, "more"))
        self.assertEqual(self.session("(down (num 3))", limit=4).end(), (4, "value"))
        self.assertEqual(self.session("(down (num 3))", limit=3).end(), (3, "more"))

    def test_the_program_is_rejected(self):
        self.assertRaises(TooLarge, Session, SOURCE, TARGET, ROWS, node("num", wide(3999)))
        self.assertRaises(TooLarge, Session, SOURCE, TARGET, ROWS, node("num", wide(3999)), most=2, limit=0)
        self.assertEqual(Session(SOURCE, TARGET, ROWS, node("num", wide(3998))).end(), (0, "value"))

    def test_the_example(self):
        source = read_language([("two", 1, "plain", [0])], [("go", "(two $x)", [], "", "$x")])
        target = read_language([("a", 1, "plain", [0]), ("b", 1, "plain", [0])], [("first", "(a $x)", [], "", "(b $x)"), ("last", "(b $x)", [], "", "$x")])
        rows = rows_of(source, target, "two x: (a $x)")
        session = Session(source, target, rows, node("two", node("two", num(5))), most=2)
        self.assertEqual((session.end(), session.where(3), session.rule_at(1)), ((2, "value"), (1, 1), "go"))
        self.assertEqual(Session(source, target, rows, node("two", num(5))).end(), (0, "parted"))


    def test_a_run_is_followed_only_as_far_as_it_is_asked_for(self):
        session = self.session("(seq (down (num 1)) loop)", limit=10 ** 12)
        session.go(3)
        session.forward()
        self.assertEqual((session.rule(), session.rule_at(20), session.search(["loop"]), session.where(9)), ("loop", "loop", 4, (5, 0)))


class Going(Sessions):
    """I7"""

    def test_forward_and_back(self):
        session = self.session()
        for position in range(1, 7):
            self.assertIsNone(session.forward())
            self.assertEqual((session.position, session.rule()), (position, RULES[position]))
        self.no_position(6, "value", session.forward)
        self.assertEqual(session.position, 6)
        for position in range(5, -1, -1):
            self.assertIsNone(session.back())
            self.assertEqual((session.position, session.target_steps()), (position, STEPS[position]))
        self.no_position(0, "start", session.back)
        self.assertEqual(session.position, 0)

    def test_going_anywhere(self):
        session = self.session()
        self.assertIsNone(session.go(4))
        for position in (7, 8, 1000):
            self.no_position(6, "value", session.go, position)
            self.assertEqual((session.position, session.rule()), (4, "seq"))
        for position in (-1, -2, -1000):
            self.no_position(0, "start", session.go, position)
            self.assertEqual(session.position, 4)
        session.go(6)
        session.go(0)
        self.assertEqual(session.state(), (term(LONG), (), ()))
        session.go(0)
        self.assertEqual(session.position, 0)

    def test_the_words_of_the_end(self):
        for text, last, word in (("5", 0, "value"), ("stop", 0, "stuck"), ("(seq (out (num 1)) stop)", 2, "stuck"), ("loop", 30, "more"), ("(down (num 2))", 3, "value"),
                                 ("(add (num 999999999999999) (num 1))", 0, "large")):
            session = self.session(text, limit=30)
            self.no_position(last, word, session.go, last + 1)
            self.no_position(last, word, session.go, 1000000)
            self.assertEqual(session.position, 0)
            session.go(last)
            self.no_position(last, word, session.forward)
            self.assertEqual(session.position, last)
        self.no_position(2, "parted", self.session(most=2).go, 3)
        session = self.session(limit=0)
        self.no_position(0, "more", session.forward)
        self.no_position(0, "start", session.back)


class Searching(Sessions):
    """I8"""

    def test_from_every_position(self):
        names = ["sum", "seq", "less", "none", "out", "loop", "other"]
        listed = [[word] for word in names] + [["sum", "out"], ["less", "none", "other"], [], ("seq", "seq"), ("other", "none")]
        for wanted in listed:
            for position in range(7):
                session = self.session()
                session.go(position)
                ahead = [at for at in range(position, 6) if RULES[at] in wanted]
                before = [at for at in range(position) if RULES[at] in wanted]
                for _ in range(2):
                    self.assertEqual(session.search(wanted), ahead[0] if ahead else None)
                    self.assertEqual(session.search(wanted, backwards=True), before[-1] if before else None)
                    self.assertEqual(session.search(wanted, backwards=False), ahead[0] if ahead else None)
                    self.assertEqual(session.position, position)

    def test_names_stay(self):
        names = ["other", "out"]
        self.assertEqual(self.session().search(names), 5)
        self.assertEqual(names, ["other", "out"])

    def test_only_rules_of_followed_steps(self):
        self.assertIsNone(self.session(most=2).search(["less"]))
        self.assertIsNone(self.session(limit=5).search(["out"]))
        self.assertEqual(self.session(limit=6).search(["out"]), 5)
        self.assertIsNone(self.session("loop").search(["sum"]))
        self.assertEqual(self.session("(seq (down (num 1)) loop)").search(["loop"]), 3)


class Wheres(Sessions):
    def test_every_number_of_steps(self):
        session = self.session()
        for steps in list(range(30)) + [1000000]:
            position = max(at for at in range(7) if STEPS[at] <= steps)
            self.assertEqual(session.where(steps), (position, steps - STEPS[position]))
            self.assertEqual(session.position, 0)
        backwards = self.session()
        backwards.go(3)
        for steps in list(range(30))[::-1]:
            self.assertEqual(backwards.where(steps), session.where(steps))
            self.assertEqual(backwards.position, 3)

    def test_ends(self):
        self.assertEqual(self.session("5").where(3), (0, 3))
        self.assertEqual(self.session("loop").where(99), (99, 0))
        self.assertEqual(self.session("loop").where(100), (100, 0))
        self.assertEqual(self.session("loop").where(107), (100, 7))
        self.assertEqual(self.session(most=2).where(50), (2, 47))
        self.assertEqual(self.session(limit=0).where(50), (0, 50))
        self.assertEqual(self.session(target=changed_target("d2")).where(4), (2, 1))


class Together(Sessions):
    def test_two_sessions(self):
        one, other = self.session(), self.session("(down (num 5))")
        one.go(3)
        other.go(5)
        one.forward()
        self.assertEqual((one.position, other.position), (4, 5))
        self.assertEqual((one.rule(), other.rule(), one.target_steps(), other.target_steps()), ("seq", "none", 9, 15))
        other.back()
        self.assertEqual((one.position, other.position, one.end(), other.end()), (4, 4, (6, "value"), (6, "value")))
        same = self.session()
        self.assertEqual((same.position, same.rule(), one.rule()), (0, "sum", "seq"))

    def test_arguments_stay(self):
        rows = [(word, list(words), template) for word, words, template in ROWS]
        program = term(LONG)
        session = Session(SOURCE, TARGET, rows, program, most=3, limit=50)
        before = repr(rows)
        self.assertEqual(session.end(), (6, "value"))
        self.assertEqual((repr(rows), program), (before, term(LONG)))


if __name__ == "__main__":
    unittest.main()
