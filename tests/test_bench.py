"""passproven.bench: the promises K1 to K5."""

import unittest

from building import meta, node, num, same_rows, wide
from judged import LANGUAGE, crowded_language, told_by
from passproven import bench as benches
from passproven.bench import BadName, Bench, BenchError, Broken, InUse, NoLanguage, NoPass, NoRoom, NotJoined, NothingLeft
from passproven.errors import PassError, TooLarge
from passproven.faults import faults
from passproven.judging import TooManyCases, judge
from passproven.languages import Language, read_language
from passproven.origins import source_of
from passproven.passes import BadPass, compose, translate
from passproven.sides import follow
from passproven.stepping import run
from walking import PROGRAMS, ROWS, SOURCE, TARGET, term

BAD_NAMES = ("", "A", "1a", "_a", "a-b", "abcdefghijklm", " a", "a.b")


def small(*words, kind="value"):
    """A language with constructors of one strict argument."""
    return read_language([(word, 1, kind, [0]) for word in words], [])


def rows_between(source, target):
    """A pass that translates each constructor of the source to the first one of the target."""
    return tuple((row[0], ("x",), node(target.constructors[0][0], meta("x"))) for row in source.constructors)


A, B, C = small("a"), small("b"), small("c")


class Benches(unittest.TestCase):
    def raises(self, error, name, method, *arguments, **more):
        """A call raises an error, and leaves everything as it was."""
        bench = getattr(method, "__self__", None)
        before = seen(bench)
        with self.assertRaises(error) as caught:
            method(*arguments, **more)
        self.assertIs(type(caught.exception), error)
        self.assertEqual(caught.exception.name, name)
        self.assertEqual(seen(bench), before)

    def filled(self):
        """A bench with the languages a, b and c, the passes ab and bc, and five changes."""
        bench = Bench()
        for name, language in (("a", A), ("b", B), ("c", C)):
            bench.set_language(name, language)
        bench.set_pass("ab", "a", "b", rows_between(A, B))
        bench.set_pass("bc", "b", "c", rows_between(B, C))
        return bench


def seen(bench):
    """All that a bench shows of itself, apart from work."""
    languages = [(name, bench.language(name).constructors, bench.language(name).rules) for name in bench.languages()]
    return (languages, bench.passes(), [bench.rows(row[0]) for row in bench.passes()], len(bench))


class Classes(unittest.TestCase):
    def test_errors(self):
        self.assertEqual(BenchError.__bases__, (PassError,))
        for error in (BadName, NoLanguage, NoPass, NoRoom, InUse, Broken, NotJoined, NothingLeft):
            self.assertEqual(error.__bases__, (BenchError,))
            self.assertEqual(error("x").name, "x")

    def test_all_names_are_there(self):
        for name in ("set_language", "remove_language", "set_pass", "compose", "remove_pass", "undo", "redo", "language", "rows", "languages", "passes",
                     "__contains__", "__len__", "run", "translated", "source", "faults", "follow", "judge", "work"):
            self.assertIn(name, benches.Bench.__dict__)


class Empty(Benches):
    """K1"""

    def test_at_the_beginning(self):
        bench = Bench()
        self.assertEqual((bench.languages(), bench.passes(), len(bench), bench.work()), ([], [], 0, (0, 0)))
        self.assertNotIn("a", bench)
        self.raises(NothingLeft, None, bench.undo)
        self.raises(NothingLeft, None, bench.redo)

    def test_two_benches(self):
        one, other = self.filled(), Bench()
        self.assertEqual((len(one), len(other), other.languages()), (5, 0, []))
        self.assertIn("ab", one)
        self.assertNotIn("ab", other)


class Languages(Benches):
    """K1, K3: set_language, remove_language, language, languages"""

    def test_defining(self):
        bench = Bench()
        self.assertIsNone(bench.set_language("b", A))
        bench.set_language("a", B)
        self.assertEqual((bench.languages(), bench.language("b").constructors, len(bench)), (["a", "b"], A.constructors, 2))
        self.assertTrue("a" in bench and "b" in bench and "c" not in bench)
        bench.set_language("b", C)
        self.assertEqual((bench.languages(), bench.language("b").constructors, len(bench)), (["a", "b"], C.constructors, 3))
        bench.set_language("b", C)
        self.assertEqual(len(bench), 4)

    def test_bad_names(self):
        bench = self.filled()
        for name in BAD_NAMES:
            self.raises(BadName, name, bench.set_language, name, A)
        for at in range(3):
            bench.set_language(f"x{at}", A)
        for name in BAD_NAMES:
            self.raises(BadName, name, bench.set_language, name, A)

    def test_6_and_7_languages(self):
        bench = Bench()
        for at in range(6):
            bench.set_language(f"x{at}", A)
        self.raises(NoRoom, "x6", bench.set_language, "x6", A)
        bench.set_language("x3", B)
        self.assertEqual(len(bench), 7)
        bench.remove_language("x0")
        bench.set_language("x6", A)
        self.raises(NoRoom, "x0", bench.set_language, "x0", A)

    def test_removing(self):
        bench = self.filled()
        for name in ("x", "ab", "", "A"):
            self.raises(NoLanguage, name, bench.remove_language, name)
        self.raises(InUse, "ab", bench.remove_language, "a")
        self.raises(InUse, "ab", bench.remove_language, "b")
        self.raises(InUse, "bc", bench.remove_language, "c")
        bench.remove_pass("ab")
        self.raises(InUse, "bc", bench.remove_language, "b")
        self.assertIsNone(bench.remove_language("a"))
        self.assertEqual((bench.languages(), len(bench)), (["b", "c"], 7))
        self.raises(NoLanguage, "a", bench.remove_language, "a")
        self.raises(NoLanguage, "a", bench.language, "a")

    def test_the_first_pass_that_has_it(self):
        bench = self.filled()
        for name in ("zz", "aa", "mm"):
            bench.set_pass(name, "b", "b", rows_between(B, B))
        self.raises(InUse, "aa", bench.remove_language, "b")
        self.raises(Broken, "aa", bench.set_language, "b", small("b", "b2"))

    def test_replacing_a_language(self):
        bench = self.filled()
        # A further constructor of the target breaks no pass to it, but those from it.
        self.raises(Broken, "bc", bench.set_language, "b", small("b", "b2"))
        self.raises(Broken, "ab", bench.set_language, "b", small("x"))
        self.raises(Broken, "ab", bench.set_language, "a", small("b"))
        self.raises(Broken, "bc", bench.set_language, "c", small("x"))
        bench.set_language("c", small("x", "c"))
        bench.set_language("b", small("b", kind="plain"))
        bench.remove_pass("bc")
        bench.set_language("b", small("b2", "b"))
        self.raises(Broken, "ab", bench.set_language, "a", read_language([("a", 2, "value", [])], []))
        self.assertEqual(len(bench), 9)

    def test_replacing_a_language_from_which_and_to_which_a_pass_goes(self):
        bench = Bench()
        bench.set_language("a", A)
        bench.set_pass("p", "a", "a", rows_between(A, A))
        # Only between the old and the new language would this be no pass.
        self.raises(Broken, "p", bench.set_language, "a", B)
        bench.set_language("a", read_language([("a", 1, "plain", [])], [("r", "(a $x)", [], "", "$x")]))
        self.raises(Broken, "p", bench.set_language, "a", small("a", "b"))

    def test_a_language_is_kept_as_it_was(self):
        bench = Bench()
        language = small("a")
        bench.set_language("a", language)
        self.assertIs(bench.language("a"), language)
        language.constructors = B.constructors
        self.assertEqual(bench.language("a").constructors, A.constructors)
        bench.language("a").rules = None
        self.assertEqual((bench.language("a").constructors, bench.language("a").rules), (A.constructors, ()))
        self.assertEqual(bench.run("a", node("a", num(1)), steps=1)[0], "value")
        other = small("a")
        bench.set_language("a", other)
        other.rules = (1,)
        self.assertEqual(bench.language("a").rules, ())

    def test_lists_may_be_changed(self):
        bench = self.filled()
        bench.languages().append("x")
        bench.passes().clear()
        bench.faults("ab").append("x")
        self.assertEqual((bench.languages(), len(bench.passes()), bench.faults("ab")), (["a", "b", "c"], 2, []))


class Passes(Benches):
    """K1, K3: set_pass, remove_pass, compose, rows, passes"""

    def test_defining(self):
        bench = self.filled()
        self.assertEqual(bench.passes(), [("ab", "a", "b"), ("bc", "b", "c")])
        self.assertEqual(bench.rows("ab"), (("a", ("x",), node("b", meta("x"))),))
        rows = [["a", ["y"], node("c", node("c", meta("y")))]]
        self.assertIsNone(bench.set_pass("aa", "a", "c", rows))
        rows[0][1].append("z")
        rows.clear()
        self.assertEqual(bench.rows("aa"), (("a", ("y",), node("c", node("c", meta("y")))),))
        self.assertEqual(bench.passes()[0], ("aa", "a", "c"))
        bench.set_pass("ab", "b", "c", rows_between(B, C))
        self.assertEqual((bench.passes()[1], len(bench)), (("ab", "b", "c"), 7))

    def test_a_language_and_a_pass_of_one_name(self):
        bench = self.filled()
        bench.set_pass("a", "a", "b", rows_between(A, B))
        bench.set_language("ab", A)
        self.assertEqual((bench.languages(), [row[0] for row in bench.passes()]), (["a", "ab", "b", "c"], ["a", "ab", "bc"]))
        bench.remove_language("ab")
        self.assertIn("ab", bench)
        bench.remove_pass("ab")
        self.assertNotIn("ab", bench)
        self.assertIn("a", bench)
        for name in ("x", "", "bcd"):
            self.assertNotIn(name, bench)

    def test_the_order_of_errors(self):
        bench = self.filled()
        for name in BAD_NAMES:
            self.raises(BadName, name, bench.set_pass, name, "x", "y", ())
        self.raises(NoLanguage, "x", bench.set_pass, "p", "x", "y", ())
        self.raises(NoLanguage, "y", bench.set_pass, "p", "a", "y", ())
        self.raises(NoLanguage, "ab", bench.set_pass, "p", "a", "ab", ())
        for rows, number, reason in (((), None, "length"), (rows_between(B, B), 0, "name"), (rows_between(A, C), 0, "signature")):
            before = seen(bench)
            with self.assertRaises(BadPass) as caught:
                bench.set_pass("p", "a", "b", rows)
            self.assertEqual((caught.exception.number, caught.exception.reason, seen(bench)), (number, reason, before))

    def test_8_and_9_passes(self):
        bench = self.filled()
        for at in range(6):
            bench.set_pass(f"p{at}", "a", "b", rows_between(A, B))
        for name in BAD_NAMES:
            self.raises(BadName, name, bench.set_pass, name, "x", "y", ())
            self.raises(BadName, name, bench.compose, name, "ab", "bc")
        self.raises(NoRoom, "p6", bench.set_pass, "p6", "x", "y", ())
        self.raises(NoRoom, "p6", bench.compose, "p6", "ab", "bc")
        bench.set_pass("p3", "b", "c", rows_between(B, C))
        bench.compose("p4", "ab", "bc")
        self.assertEqual((len(bench), bench.passes()[-2]), (13, ("p4", "a", "c")))
        bench.remove_pass("p0")
        bench.compose("p6", "ab", "p3")
        self.raises(NoRoom, "p0", bench.set_pass, "p0", "a", "b", rows_between(A, B))

    def test_removing(self):
        bench = self.filled()
        for name in ("x", "a", ""):
            self.raises(NoPass, name, bench.remove_pass, name)
            self.raises(NoPass, name, bench.rows, name)
        self.assertIsNone(bench.remove_pass("ab"))
        self.raises(NoPass, "ab", bench.remove_pass, "ab")
        self.assertEqual((bench.passes(), len(bench)), ([("bc", "b", "c")], 6))

    def test_composing(self):
        bench = self.filled()
        self.assertIsNone(bench.compose("ac", "ab", "bc"))
        self.assertEqual((bench.passes()[1], bench.rows("ac")), (("ac", "a", "c"), (("a", ("x",), node("c", meta("x"))),)))
        self.assertEqual(bench.rows("ac"), compose(bench.rows("ab"), bench.rows("bc")))
        bench.compose("ab", "ab", "bc")
        self.assertEqual((bench.rows("ab"), bench.passes()[0], len(bench)), (bench.rows("ac"), ("ab", "a", "c"), 7))

    def test_errors_of_composing(self):
        bench = self.filled()
        self.raises(NoPass, "x", bench.compose, "A", "x", "y")
        self.raises(NoPass, "y", bench.compose, "A", "ab", "y")
        self.raises(NoPass, "b", bench.compose, "A", "ab", "b")
        self.raises(NotJoined, "ab", bench.compose, "A", "bc", "ab")
        self.raises(NotJoined, "ab", bench.compose, "A", "ab", "ab")
        for name in BAD_NAMES:
            self.raises(BadName, name, bench.compose, name, "ab", "bc")
        # The same language by another name does not join them.
        bench.set_language("b2", B)
        bench.set_pass("b2c", "b2", "c", rows_between(B, C))
        self.raises(NotJoined, "b2c", bench.compose, "ac", "ab", "b2c")

    def test_composing_what_is_too_large(self):
        bench = Bench()
        bench.set_language("a", read_language([("a", 6, "value", []), ("b", 1, "value", [])], []))
        six = node("a", meta("q"), *[node("a", *map(num, range(6)))] * 5)
        grown = six
        for _ in range(9):
            grown = node("a", grown, *[node("a", *map(num, range(6)))] * 5)
        wide_row = ("a", tuple("abcdef"), node("a", *map(meta, "abcdef")))
        bench.set_pass("p", "a", "a", (wide_row, ("b", ("q",), grown)))
        tall = meta("q")
        for _ in range(12):
            tall = node("b", tall)
        bench.set_pass("q", "a", "a", (wide_row, ("b", ("q",), tall)))
        before = seen(bench)
        for name in ("r", "A"):
            self.assertRaises(TooLarge, bench.compose, name, "q", "p")
            self.assertEqual(seen(bench), before)
        bench.compose("r", "p", "q")


class Changes(Benches):
    """K2"""

    def script(self):
        """A bench, and what it showed before the first change and behind each one."""
        bench = Bench()
        shown = [seen(bench)[:3]]
        changes = [
            lambda: bench.set_language("a", A), lambda: bench.set_language("b", B), lambda: bench.set_pass("ab", "a", "b", rows_between(A, B)),
            lambda: bench.set_language("c", C), lambda: bench.set_pass("bc", "b", "c", rows_between(B, C)), lambda: bench.compose("ac", "ab", "bc"),
            lambda: bench.set_language("c", small("c", "c2")), lambda: bench.set_language("c", small("c", "c2")), lambda: bench.remove_pass("bc"),
            lambda: bench.set_pass("ab", "b", "c", rows_between(B, C)), lambda: bench.remove_pass("ac"), lambda: bench.remove_language("a"),
            lambda: bench.set_pass("a", "b", "b", rows_between(B, B)), lambda: bench.remove_pass("ab"), lambda: bench.remove_language("c")]
        for number, change in enumerate(changes):
            self.assertEqual(len(bench), number)
            change()
            shown.append(seen(bench)[:3])
        return bench, shown

    def test_through_all_changes_and_back(self):
        bench, shown = self.script()
        many = len(shown) - 1
        for _ in range(2):
            self.raises(NothingLeft, None, bench.redo)
            for at in range(many, 0, -1):
                self.assertEqual(len(bench), at)
                self.assertIsNone(bench.undo())
                self.assertEqual(seen(bench)[:3], shown[at - 1])
            self.assertEqual(len(bench), 0)
            self.raises(NothingLeft, None, bench.undo)
            for at in range(many):
                self.assertIsNone(bench.redo())
                self.assertEqual((seen(bench)[:3], len(bench)), (shown[at + 1], at + 1))

    def test_back_and_forth(self):
        bench, shown = self.script()
        at = len(shown) - 1
        for word in "uuruuurruuuruuuururrrruuuuurrr":
            (bench.undo if word == "u" else bench.redo)()
            at += -1 if word == "u" else 1
            self.assertEqual((seen(bench)[:3], len(bench)), (shown[at], at))

    def test_a_change_behind_an_undo(self):
        bench, shown = self.script()
        for _ in range(4):
            bench.undo()
        bench.set_language("z", A)
        self.assertEqual(len(bench), len(shown) - 4)
        self.raises(NothingLeft, None, bench.redo)
        bench.undo()
        self.assertEqual(seen(bench)[:3], shown[-5])
        bench.redo()
        self.assertIn("z", bench)
        bench.undo()
        bench.undo()
        self.assertEqual(seen(bench)[:3], shown[-6])

    def test_a_call_that_raises_is_no_change(self):
        bench = self.filled()
        bench.undo()
        calls = [lambda: bench.set_language("A", A), lambda: bench.set_language("b", small("x")), lambda: bench.remove_language("a"), lambda: bench.remove_language("x"),
                 lambda: bench.set_pass("p", "a", "b", ()), lambda: bench.set_pass("p", "a", "x", ()), lambda: bench.compose("p", "ab", "ab"), lambda: bench.remove_pass("x"),
                 lambda: bench.run("x", num(1), steps=1), lambda: bench.judge("x", most=1)]
        for call in calls:
            before = seen(bench)
            self.assertRaises(PassError, call)
            self.assertEqual(seen(bench), before)
        bench.redo()
        self.assertEqual(len(bench), 5)
        self.assertIn("bc", bench)

    def test_questions_are_no_changes(self):
        bench = self.filled()
        bench.undo()
        bench.language("a"), bench.languages(), bench.passes(), bench.rows("ab"), bench.faults("ab"), bench.judge("ab", most=1), bench.work()
        bench.run("a", num(1), steps=1), bench.translated("ab", num(1)), bench.source("ab", num(1)), bench.follow("ab", num(1), most=1, steps=1)
        self.assertEqual(len(bench), 4)
        bench.redo()
        self.assertEqual(len(bench), 5)

    def test_a_change_that_defines_what_is_there(self):
        bench = self.filled()
        bench.set_language("a", A)
        bench.set_pass("ab", "a", "b", rows_between(A, B))
        self.assertEqual(len(bench), 7)
        before = seen(bench)[:3]
        bench.undo()
        bench.undo()
        self.assertEqual((seen(bench)[:3], len(bench)), (before, 5))


class Answers(Benches):
    """K5 and the questions of the bench"""

    def setUp(self):
        self.bench = Bench()
        self.bench.set_language("one", SOURCE)
        self.bench.set_language("other", TARGET)
        self.bench.set_pass("p", "one", "other", ROWS)

    def test_run(self):
        for text in PROGRAMS:
            for steps in (0, 3, 20):
                self.assertEqual(self.bench.run("one", term(text), steps=steps), run(SOURCE, term(text), steps=steps))
                image = translate(ROWS, term(text))
                self.assertEqual(self.bench.run("other", image, steps=steps), run(TARGET, image, steps=steps))

    def test_passes(self):
        for text in PROGRAMS:
            image = translate(ROWS, term(text))
            self.assertEqual(self.bench.translated("p", term(text)), image)
            self.assertEqual(self.bench.source("p", image), source_of(ROWS, image))
            for most, steps in ((1, 3), (3, 9)):
                self.assertEqual(self.bench.follow("p", term(text), most=most, steps=steps), follow(SOURCE, TARGET, ROWS, term(text), most=most, steps=steps))
        self.assertIsNone(self.bench.source("p", node("halt2")))
        self.assertEqual(self.bench.faults("p"), faults(SOURCE, TARGET, ROWS))
        turned = read_language([("f", 2, "plain", [0, 1])], [])
        self.bench.set_language("turned", turned)
        self.bench.set_pass("q", "turned", "turned", [("f", ["a", "b"], node("f", meta("b"), meta("a")))])
        self.assertEqual(self.bench.faults("q"), [("place", "f", 0)])

    def test_judge(self):
        for most in (1, 2, 3):
            self.assertEqual(told_by(self.bench.judge("p", most=most)), told_by(judge(SOURCE, TARGET, ROWS, most=most)))

    def test_errors(self):
        bench = self.bench
        for name in ("p", "x", ""):
            self.raises(NoLanguage, name, bench.run, name, num(1), steps=1)
            self.raises(NoLanguage, name, bench.language, name)
        for name in ("one", "x", ""):
            self.raises(NoPass, name, bench.translated, name, num(1))
            self.raises(NoPass, name, bench.source, name, num(1))
            self.raises(NoPass, name, bench.faults, name)
            self.raises(NoPass, name, bench.rows, name)
            self.raises(NoPass, name, bench.follow, name, num(1), most=1, steps=1)
            self.raises(NoPass, name, bench.judge, name, most=1)
        self.assertRaises(TooLarge, bench.translated, "p", wide(4000))
        self.assertRaises(TooLarge, bench.follow, "p", wide(4000), most=1, steps=1)

    def test_answers_are_about_the_present(self):
        bench = self.bench
        program = term("(out (num 5))")
        self.assertEqual(bench.follow("p", program, most=3, steps=9)[0], "value")
        before = told_by(bench.judge("p", most=3))
        bench.set_language("other", Language(TARGET.constructors, [rule for rule in TARGET.rules if rule[0] != "say"]))
        self.assertEqual(bench.follow("p", program, most=3, steps=9)[0], "parted")
        self.assertEqual(bench.judge("p", most=3).verdict, "no")
        bench.undo()
        self.assertEqual(told_by(bench.judge("p", most=3)), before)
        bench.redo()
        self.assertEqual(bench.judge("p", most=3).verdict, "no")


class Work(Benches):
    """K4"""

    def setUp(self):
        self.bench = Bench()
        self.bench.set_language("one", LANGUAGE)
        self.bench.set_language("other", LANGUAGE)
        self.bench.set_pass("p", "one", "other", same_rows(LANGUAGE))

    def work(self, *expected):
        self.assertEqual(self.bench.work(), expected)
        self.assertEqual(self.bench.work(), (0, 0))

    def test_made_and_there(self):
        bench = self.bench
        told = told_by(bench.judge("p", most=1))
        self.work(1, 0)
        self.assertEqual(told_by(bench.judge("p", most=1)), told)
        bench.judge("p", most=1)
        self.work(0, 2)
        bench.judge("p", most=2)
        bench.judge("p", most=1)
        bench.judge("p", most=2)
        self.work(1, 2)

    def test_what_is_the_same(self):
        bench = self.bench
        bench.judge("p", most=1)
        bench.set_pass("q", "other", "one", same_rows(LANGUAGE))
        bench.judge("q", most=1)
        bench.set_language("anew", Language([row[:3] + (list(row[3]),) for row in LANGUAGE.constructors], list(LANGUAGE.rules)))
        other_words = {"a": "q", "b": "a", "c": "b"}
        renamed = []
        for word, words, template in same_rows(LANGUAGE):
            parts = tuple(("meta", other_words[part[1]]) for part in template[2])
            renamed.append((word, [other_words[one] for one in words], ("node", template[1], parts)))
        bench.set_pass("r", "anew", "anew", renamed)
        bench.judge("r", most=1)
        bench.compose("s", "p", "q")
        bench.judge("s", most=1)
        self.work(1, 3)

    def test_words_that_change_places(self):
        # With exchanged words the rows are the same; with exchanged places they are others.
        language = read_language([("f", 2, "plain", [0])], [("r", "(f $x $y)", [], "", "$y")])
        for name in ("one", "other"):
            self.bench.set_language(f"{name}2", language)
        rows = {"p2": (("a", "b"), "ab"), "q2": (("b", "a"), "ba"), "r2": (("a", "b"), "ba"), "s2": (("b", "a"), "ab"), "t2": (("p1", "p0"), ("p1", "p0"))}
        for name, (words, order) in rows.items():
            self.bench.set_pass(name, "one2", "other2", [("f", words, node("f", *map(meta, order)))])
        found = {name: self.bench.judge(name, most=1).verdict for name in rows}
        self.assertEqual(found, {"p2": "yes", "q2": "yes", "r2": "no", "s2": "no", "t2": "yes"})
        self.work(2, 3)

    def test_what_is_not_the_same(self):
        bench = self.bench
        bench.judge("p", most=1)
        rules = LANGUAGE.rules
        for language in (Language(LANGUAGE.constructors, rules[1:] + rules[:1]), Language(LANGUAGE.constructors, rules[:-1]),
                         Language(LANGUAGE.constructors, (("other",) + rules[0][1:],) + rules[1:]), Language(LANGUAGE.constructors, rules)):
            bench.set_language("other", language)
            bench.judge("p", most=1)
        self.work(4, 1)
        more = Language(LANGUAGE.constructors + (("more", 0, "value", ()),), rules)
        bench.set_language("other", more)
        bench.judge("p", most=1)
        bench.set_language("other", Language(more.constructors[::-1], rules))
        bench.judge("p", most=1)
        self.work(2, 0)

    def test_other_changes_forget_nothing(self):
        bench = self.bench
        bench.judge("p", most=1)
        bench.set_pass("q", "one", "other", same_rows(LANGUAGE))
        bench.undo()
        bench.redo()
        bench.remove_pass("p")
        bench.remove_pass("q")
        bench.remove_language("one")
        bench.undo()
        bench.undo()
        bench.judge("q", most=1)
        for _ in range(3):
            bench.undo()
        self.raises(NoPass, "q", bench.judge, "q", most=1)
        for _ in range(3):
            bench.redo()
        bench.judge("q", most=1)
        self.work(1, 2)

    def test_judgements_that_raise(self):
        bench = Bench()
        crowded = crowded_language(1, 25, 6)
        bench.set_language("a", crowded)
        bench.set_pass("p", "a", "a", same_rows(crowded))
        for _ in range(2):
            with self.assertRaises(TooManyCases) as caught:
                bench.judge("p", most=1)
            self.assertEqual(caught.exception.constructor, "f")
        self.raises(NoPass, "q", bench.judge, "q", most=1)
        self.assertEqual(bench.work(), (0, 0))

    def test_judgements_may_be_changed(self):
        bench = self.bench
        bench.set_language("other", Language(LANGUAGE.constructors, LANGUAGE.rules[1:]))
        for name, most in (("p", 1), ("p", 2)):
            expected = told_by(judge(bench.language("one"), bench.language("other"), bench.rows(name), most=most))
            for _ in range(3):
                found = bench.judge(name, most=most)
                self.assertEqual(told_by(found), expected)
                found.parting.state = found.parting.run = None
                found.verdict, found.parting, found.faults = "yes", None, (1,)
        self.work(2, 4)

    def test_verdicts_of_all_kinds(self):
        bench = Bench()
        bench.set_language("a", read_language([("f", 2, "plain", [0, 1])], [("r", "(f $x $y)", ["(integer $x)", "(integer $y)"], "", "(plus $x $y)")]))
        bench.set_language("b", read_language([("f", 2, "plain", [0, 1])], [("r", "(f $x $y)", ["(integer $x)", "(integer $y)"], "", "0")]))
        same, turned = [("f", "ab", node("f", meta("a"), meta("b")))], [("f", "ab", node("f", meta("b"), meta("a")))]
        for name, source, target, rows in (("yes", "a", "a", same), ("undecided", "a", "b", same), ("no", "a", "b", turned)):
            bench.set_pass(name, source, target, [(word, list(words), template) for word, words, template in rows])
            for _ in range(2):
                found = bench.judge(name, most=1)
                self.assertEqual((found.verdict, told_by(found)), (name, told_by(judge(bench.language(source), bench.language(target), bench.rows(name), most=1))))
        self.assertEqual(bench.work(), (3, 3))


if __name__ == "__main__":
    unittest.main()
