"""passproven.cases: the words of conditions (D1), and the cases of D3."""

import unittest

import naive
from building import addr, meta, name, num
from passproven.cases import ANY_SORT, SORTS, cases_of, words_of


class WordsOf(unittest.TestCase):
    def check(self, condition, *words):
        for asked in (condition, ("not", condition)):
            self.assertEqual(words_of(asked), list(words))

    def test_sorts(self):
        for sort in ("integer", "name", "address", "map"):
            self.check((sort, "x"), "x")

    def test_comparisons(self):
        for head in ("equal", "less"):
            self.check((head, meta("y"), meta("x")), "y", "x")
            self.check((head, meta("x"), ("sum", "x", 3)), "x")
            self.check((head, ("sum", "b", -1), ("sum", "a", 3)), "b", "a")
            self.check((head, num(1), meta("x")), "x")
            self.check((head, name("x"), addr(1)))

    def test_has(self):
        self.check(("has", "m", meta("k")), "m", "k")
        self.check(("has", "m", name("k")), "m")
        self.check(("has", "m", meta("m")), "m")

    def test_answers_may_be_changed(self):
        condition = ("less", meta("x"), meta("y"))
        words_of(condition).append("z")
        self.assertEqual(words_of(condition), ["x", "y"])


class Cases(unittest.TestCase):
    """D3"""

    def counts(self, condition, plain, negated):
        sorts = {word: ANY_SORT for word in words_of(condition)}
        self.assertEqual((len(cases_of(condition, sorts)), len(cases_of(("not", condition), sorts))), (plain, negated))

    def test_how_many_cases_there_are(self):
        self.counts(("map", "x"), 1, 4)
        self.counts(("equal", meta("x"), meta("y")), 3, 26)
        self.counts(("equal", meta("x"), num(1)), 1, 6)
        self.counts(("equal", meta("x"), name("a")), 1, 5)
        self.counts(("equal", num(1), name("a")), 0, 1)
        self.counts(("equal", ("sum", "x", 1), meta("y")), 1, 26)
        self.counts(("less", meta("x"), ("sum", "y", 1)), 1, 25)
        self.counts(("has", "x", meta("k")), 1, 25)
        self.counts(("has", "x", name("a")), 1, 5)

    def test_the_order_of_cases(self):
        for _, conditions in naive.drawn_lists(7, 200, 6):
            for condition in conditions:
                sorts = {word: ANY_SORT for word in words_of(condition)}
                found = [{word: SORTS[sort] for word, sort in case[0]} for case in cases_of(condition, sorts)]
                self.assertEqual(found, [case[0] for case in naive.cases_of(condition)], condition)


if __name__ == "__main__":
    unittest.main()
