"""passproven.papers: the promises H14 and H15."""

import unittest

from building import rows_of, same_rows
from drawing import Drawing
from judged import CONSTRUCTORS, LANGUAGE, RULES, crowded_language, judged
from passproven.judging import TooManyCases, judge
from passproven.languages import Language, read_language
from passproven.papers import check_paper
from passproven.trials import Cases, all_redexes


def all_entries(source, target, rows, most):
    """What comes of all cases, however many they are."""
    paper = []
    for redexes in all_redexes(source, target, rows, most):
        cases, entries = Cases(redexes), []
        while cases.are_left():
            entries.append(cases.try_next()[:2])
        paper.append((redexes.node[1], tuple(entries)))
    return tuple(paper)


class Papers(unittest.TestCase):
    def check(self, expected, source, target, rows, paper, most=1):
        before = (repr(rows), repr(paper), source.rules, target.rules)
        for _ in range(2):
            self.assertIs(check_paper(source, target, rows, paper, most=most), expected)
        self.assertEqual((repr(rows), repr(paper), source.rules, target.rules), before)


class Right(Papers):
    def test_the_paper_of_a_yes(self):
        rows = same_rows(LANGUAGE)
        paper = judge(LANGUAGE, LANGUAGE, rows, most=1).paper
        for most in (1, 2, 3, 20):
            self.check(True, LANGUAGE, LANGUAGE, rows, paper, most)
        self.assertEqual(judge(LANGUAGE, LANGUAGE, rows, most=7).paper, paper)

    def test_a_smaller_and_a_larger_number(self):
        source = read_language([("two", 1, "plain", [0])], [("go", "(two $x)", [], "", "$x")])
        target = read_language([("a", 1, "plain", [0]), ("b", 1, "plain", [0])], [("first", "(a $x)", [], "", "(b $x)"), ("last", "(b $x)", [], "", "$x")])
        rows = rows_of(source, target, "two x: (a $x)")
        paper = judge(source, target, rows, most=2).paper
        for most, expected in ((1, False), (2, True), (3, True), (20, True)):
            self.check(expected, source, target, rows, paper, most)
        self.check(False, source, target, rows, (("two", (("met", 1),)),), 2)
        self.check(False, source, target, rows, (("two", (("met", 3),)),), 20)

    def test_no_plain_constructors(self):
        language = read_language([("b", 1, "value", [0])], [])
        self.check(True, language, language, same_rows(language), ())
        self.check(False, language, language, same_rows(language), (("b", ()),))

    def test_more_than_500_entries(self):
        language = crowded_language(1, 25, 6)
        rows = same_rows(language)
        self.assertRaises(TooManyCases, judge, language, language, rows, most=1)
        paper = all_entries(language, language, rows, 1)
        self.assertEqual([len(entries) for _, entries in paper], [1, 501, 1, 1, 1])
        self.assertIs(check_paper(language, language, rows, paper, most=1), True)
        word, entries = paper[1]
        for other in (entries[:500], entries[:500] + (("met", 1),), entries + (("stuck",),)):
            self.assertIs(check_paper(language, language, rows, (paper[0], (word, other)) + paper[2:], most=1), False)
        rules = [rule for rule in language.rules if rule[0] != "fy24"]
        target = Language(language.constructors, rules)
        self.assertIs(check_paper(language, target, rows, paper, most=1), False)

    def test_drawn_passes(self):
        found = 0
        for seed in range(200, 240):
            drawn = Drawing(seed)
            source = drawn.language(drawn.dice.randint(1, 5))
            target, rows = drawn.image(source)
            try:
                paper = judged(self, source, target, rows, 2).paper
            except TooManyCases:
                continue
            self.check(True, source, target, rows, paper, 2)
            self.check(True, source, target, [(word, list(words), template) for word, words, template in rows], paper, 4)
            self.assertEqual(paper, all_entries(source, target, rows, 2))
            found += 1
            for _ in range(5):
                self.check(False, source, target, rows, self.changed(drawn, paper), 2)
        self.assertGreater(found, 30)

    def changed(self, drawn, paper):
        """A paper with an entry left out, doubled, or put for another one."""
        while True:
            number = drawn.dice.randrange(len(paper))
            word, entries = paper[number]
            at = drawn.dice.randrange(len(entries))
            middle = drawn.pick(((), (entries[at],) * 2, (("met", 3),), (("stuck",),), (("ask", ("shape", 77)),), (("met", 1),), (drawn.pick(entries),)))
            other = paper[:number] + ((word, entries[:at] + middle + entries[at + 1:]),) + paper[number + 1:]
            if other != paper:
                return other


class Wrong(Papers):
    def setUp(self):
        self.rows = same_rows(LANGUAGE)
        self.paper = judge(LANGUAGE, LANGUAGE, self.rows, most=1).paper

    def wrong(self, paper, most=1):
        self.check(False, LANGUAGE, LANGUAGE, self.rows, paper, most)

    def test_constructors(self):
        paper = self.paper
        self.wrong(())
        self.wrong(paper[1:])
        self.wrong(paper[:-1])
        self.wrong(paper + paper[-1:])
        self.wrong(paper + (("num", ()),))
        self.wrong((("num", ()),) + paper)
        self.wrong(paper[::-1])
        for at in range(len(paper) - 1):
            self.wrong(paper[:at] + (paper[at + 1], paper[at]) + paper[at + 2:])
            self.wrong(paper[:at] + paper[at + 1:])
            self.wrong(paper[:at] + (("num",) + paper[at][1:],) + paper[at + 1:])

    def test_entries(self):
        for number, (word, entries) in enumerate(self.paper):
            before, behind = self.paper[:number], self.paper[number + 1:]

            def with_entries(other):
                return before + ((word, other),) + behind

            self.wrong(with_entries(()))
            self.wrong(with_entries(entries + (("stuck",),)))
            self.wrong(with_entries(entries + (("met", 1),)))
            for at, entry in enumerate(entries):
                self.wrong(with_entries(entries[:at] + entries[at + 1:]))
                for other in (("stuck",), ("met", 1), ("met", 2), ("met", 0), ("ask", ("shape", 0)), ("ask", ("shape", 1)), ("undecided",), ("open",), ()):
                    if other != entry:
                        self.wrong(with_entries(entries[:at] + (other,) + entries[at + 1:]))
                if at and entries[at - 1] != entry:
                    self.wrong(with_entries(entries[:at - 1] + (entry, entries[at - 1]) + entries[at + 1:]))

    def test_the_paper_of_another_pass(self):
        for word in [rule[0] for rule in RULES]:
            less = read_language(CONSTRUCTORS, [rule for rule in RULES if rule[0] != word])
            self.check(False, LANGUAGE, less, self.rows, self.paper)
            self.check(False, less, LANGUAGE, self.rows, self.paper)
            self.check(True, less, less, self.rows, judge(less, less, self.rows, most=1).paper)
            self.check(False, LANGUAGE, LANGUAGE, self.rows, judge(less, less, self.rows, most=1).paper)

    def test_faults(self):
        source = read_language([("f", 2, "plain", [0, 1])], [("r", "(f $x $y)", [], "", "0")])
        target = read_language([("f", 2, "plain", [0, 1]), ("g", 2, "plain", [1, 0])], [("r", "(f $x $y)", [], "", "0"), ("q", "(g $x $y)", [], "", "0")])
        right, wrong = rows_of(source, target, "f x y: (f $x $y)"), rows_of(source, target, "f x y: (g $x $y)")
        paper = (("f", (("met", 1),)),)
        self.check(True, source, target, right, paper)
        self.check(False, source, target, wrong, paper)
        self.check(False, source, target, wrong, ())

    def test_cases_that_are_not_met(self):
        source = read_language([("f", 2, "plain", [0, 1]), ("g", 1, "plain", [0])], [("r", "(f $x $y)", ["(integer $x)", "(integer $y)"], "", "(plus $x $y)")])
        target = read_language(source.constructors, [("r", "(f $x $y)", ["(integer $x)", "(integer $y)"], "", "0")])
        self.assertEqual(judged(self, source, target, same_rows(source)).verdict, "undecided")
        paper = all_entries(source, target, same_rows(source), 1)
        self.assertEqual(paper[0][1][2][0], "open")
        word, entries = paper[0]
        for entry in (("open",), ("undecided",), ("met", 1), ("stuck",)):
            other = ((word, entries[:2] + (entry,) + entries[3:]),) + paper[1:]
            self.check(False, source, target, same_rows(source), other)
        rules = [("r", "(f $x $y)", ["(integer $x)", "(integer $y)"], "", "(g (plus $x $y))"), ("q", "(g 5)", [], "", "5"), ("p", "(g $x)", ["(integer $x)"], "", "$x")]
        rows = same_rows(source, g="x: (g (f $x 1))")
        target = read_language(source.constructors, rules)
        self.assertEqual(judged(self, source, target, rows, 2).verdict, "undecided")
        paper = all_entries(source, target, rows, 2)
        self.assertEqual(paper[0][1][2], ("undecided",))
        self.check(False, source, target, rows, paper, 2)

    def test_a_wrong_start_ends_the_search(self):
        # All cases of this constructor are far too many to be tried.
        constructors = [("f", 6, "plain", list(range(6)))] + [(f"v{n}", 6, "value", list(range(6))) for n in range(30)]
        pattern = f"(f {' '.join(f'(v{n} $a{n} $b{n} $c{n} $d{n} $e{n} 1)' for n in range(6))})"
        language = read_language(constructors, [("r", pattern, [f"(less $a{n} 5)" for n in range(6)], "", "0")])
        rows = same_rows(language)
        self.check(False, language, language, rows, (("f", (("stuck",),)),))
        self.check(False, language, language, rows, (("f", (("ask", ("shape", 0)),)),))
        self.check(False, language, language, rows, (("f", (("ask", ("shape", 0)), ("stuck",))),))


if __name__ == "__main__":
    unittest.main()
