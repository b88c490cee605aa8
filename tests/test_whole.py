"""The whole program, once for each part: from languages as texts to judgement, paper, runs, sources and bench."""

import unittest

from building import node, num, rows_of
from judged import check_programs, judged, told_by
from passproven.bench import Bench
from passproven.coverage import common_redex, first_redex, stuck_redex
from passproven.errors import BadTerm, TooDeep
from passproven.faults import faults
from passproven.judging import judge
from passproven.languages import BadRule, read_language
from passproven.machines import Machine, machine_run
from passproven.matching import common, fill, match
from passproven.origins import source_of, two_sources
from passproven.papers import check_paper
from passproven.passes import check_pass, compose, translate
from passproven.positions import Session
from passproven.ruling import first_rule
from passproven.sides import follow, translate_state
from passproven.solving import follows, is_possible, solve
from passproven.stepping import run, trace
from passproven.symbolic import step_cases
from passproven.terms import height, metavariables, size
from passproven.texts import read_term, write_term

# A language with counters, maps as environments and cells; and a language with one constructor more for each of two
# of its redexes, other names, and arguments in another order.
SOURCE = [("num", 1, "value", [0]), ("add", 2, "plain", [0, 1]), ("less", 2, "plain", [0, 1]), ("if_", 3, "plain", [0]), ("bind", 3, "plain", [0, 1, 2]),
          ("look", 2, "plain", [0, 1]), ("cell", 1, "plain", [0]), ("load", 1, "plain", [0]), ("keep", 2, "plain", [0, 1]), ("out", 1, "plain", [0]),
          ("seq", 2, "plain", [0]), ("up_to", 2, "plain", [0, 1])]
SOURCE_RULES = [
    ("sum", "(add (num $x) (num $y))", ["(integer $x)", "(integer $y)"], "", "(num (plus $x $y))"),
    ("below", "(less (num $x) (num $y))", ["(less $x $y)"], "", "'yes"),
    ("above", "(less (num $x) (num $y))", ["(integer $x)", "(integer $y)"], "", "'no"),
    ("then", "(if_ 'yes $a $b)", [], "", "$a"), ("else", "(if_ 'no $a $b)", [], "", "$b"),
    ("bind", "(bind $m $k $v)", ["(map $m)", "(name $k)"], "", "(set $m $k $v)"), ("look", "(look $m $k)", ["(has $m $k)"], "", "(get $m $k)"),
    ("cell", "(cell $v)", [], "(new $v $n)", "$n"), ("load", "(load $a)", ["(address $a)"], "(read $a $v)", "$v"),
    ("keep", "(keep $a $v)", ["(address $a)"], "(write $a $v)", "$v"), ("out", "(out (num $i))", ["(integer $i)"], "(put $i)", "(num $i)"),
    ("seq", "(seq $x $y)", [], "", "$y"),
    ("loop", "(up_to $i $n)", [], "", "(if_ (less $i $n) (seq (out $i) (up_to (add $i (num 1)) $n)) $n)"),
]
TARGET = [("i", 2, "value", [1]), ("plus_", 2, "plain", [1, 0]), ("lt", 2, "plain", [0, 1]), ("branch", 3, "plain", [2]), ("put_in", 3, "plain", [1, 2, 0]),
          ("at", 2, "plain", [1, 0]), ("ref", 1, "plain", [0]), ("peek", 1, "plain", [0]), ("poke", 2, "plain", [1, 0]), ("say", 1, "plain", [0]),
          ("then", 2, "plain", [1]), ("for_", 2, "plain", [0, 1]), ("go", 2, "plain", [0, 1])]
TARGET_RULES = [
    ("add", "(plus_ (i 'int $y) (i 'int $x))", ["(integer $y)", "(integer $x)"], "", "(i 'int (plus $y $x))"),
    ("not", "(lt (i 'int $x) (i 'int $y))", ["(less $y (plus $x 1))"], "", "'no"), ("lt", "(lt (i 'int $x) (i 'int $y))", ["(integer $y)", "(integer $x)"], "", "'yes"),
    ("no", "(branch $a $b 'no)", [], "", "$b"), ("yes", "(branch $a $b 'yes)", [], "", "$a"),
    ("put_in", "(put_in $v $m $k)", ["(name $k)", "(map $m)"], "", "(set $m $k $v)"), ("at", "(at $k $m)", ["(has $m $k)"], "", "(get $m $k)"),
    ("ref", "(ref $v)", [], "(new $v $n)", "$n"), ("peek", "(peek $a)", ["(address $a)"], "(read $a $v)", "$v"),
    ("poke", "(poke $v $a)", ["(address $a)"], "(write $a $v)", "$v"), ("say", "(say (i 'int $i))", ["(integer $i)"], "(put $i)", "(i 'int $i)"),
    ("then", "(then $y $x)", [], "", "$y"),
    ("for", "(for_ $i $n)", [], "", "(go $n $i)"),
    ("go", "(go $n $i)", [], "", "(branch (then (for_ (plus_ (i 'int 1) $i) $n) (say $i)) $n (lt $i $n))"),
]
ROWS = ["num x: (i 'int $x)", "add x y: (plus_ $y $x)", "less x y: (lt $x $y)", "if_ c a b: (branch $a $b $c)", "bind m k v: (put_in $v $m $k)",
        "look m k: (at $k $m)", "cell v: (ref $v)", "load a: (peek $a)", "keep a v: (poke $v $a)", "out i: (say $i)", "seq x y: (then $y $x)",
        "up_to i n: (for_ $i $n)"]
PROGRAMS = ["(up_to (num 0) (add (num 1) (num 2)))", "(look (bind {'a (num 1)} 'b (add (num 2) (num 3))) 'b)", "(seq (cell (num 1)) (seq (keep @0 (num 2)) (load @0)))",
            "(if_ (less (num 2) (num 1)) (look {} 'a) (out (num 9)))", "(look {'a 1} 'b)", "(add (num 'a) (num 1))"]


class Whole(unittest.TestCase):
    @classmethod
    def setUpClass(cls):
        cls.source = read_language(SOURCE, SOURCE_RULES)
        cls.target = read_language(TARGET, TARGET_RULES)
        cls.rows = rows_of(cls.source, cls.target, *ROWS)
        cls.signature = {row[0]: row[1] for row in SOURCE}
        cls.paper = judge(cls.source, cls.target, cls.rows, most=2).paper

    def term(self, text):
        return read_term(self.signature, text)

    def through(self, program, most=2):
        """From a program through judgement, paper, runs, sources and bench; what the run comes to."""
        judgement = judged(self, self.source, self.target, self.rows, most)
        self.assertEqual(judgement.verdict, "yes")
        self.assertTrue(check_paper(self.source, self.target, self.rows, judgement.paper, most=most))
        end, followed, state, image = follow(self.source, self.target, self.rows, program, most=most, steps=200)
        self.assertIn(end, ("value", "stuck"))
        self.assertEqual((end, len(followed), state), run(self.source, program, steps=200))
        self.assertEqual(image, translate_state(self.rows, state))
        if end == "value":
            self.assertEqual(run(self.target, translate(self.rows, program), steps=400)[2], image)
        self.assertEqual(source_of(self.rows, image[0]), state[0])
        bench = self.bench()
        self.assertEqual(bench.follow("p", program, most=most, steps=200), (end, followed, state, image))
        self.assertEqual(told_by(bench.judge("p", most=most)), told_by(judgement))
        self.assertEqual((bench.source("p", image[0]), bench.work()), (state[0], (1, 0)))
        return end, state

    def bench(self):
        bench = Bench()
        bench.set_language("high", self.source)
        bench.set_language("low", self.target)
        bench.set_pass("p", "high", "low", self.rows)
        return bench

    def test_terms(self):
        text = "(add (add (num 1) (num 2)) (num 3))"
        program = self.term(text)
        self.assertEqual((write_term(program), size(program), height(program), metavariables(self.term("(add $y $x)"))), (text, 8, 3, ["y", "x"]))
        pattern = self.term("(add $x (num $y))")
        self.assertEqual(fill(pattern, match(pattern, program)), program)
        self.assertEqual(common(pattern, self.term("(add (num 1) $y)")), self.term("(add (num 1) (num $v0))"))
        self.assertRaises(BadTerm, self.term, "(add 1)")
        self.assertRaises(TooDeep, self.term, "(num " * 61)
        end, state = self.through(program)
        self.assertEqual((end, write_term(state[0])), ("value", "(num 6)"))

    def test_languages(self):
        with self.assertRaises(BadRule) as caught:
            read_language(SOURCE, SOURCE_RULES[1:2] + [("sum", "(add (num $x) (num $y))", ["(integer $x)"], "", "(num (plus $x $y))")])
        self.assertEqual((caught.exception.number, caught.exception.reason), (1, "undefined"))
        program = self.term("(if_ (less (num 1) (num 2)) (bind {} 'k (num 7)) (num 0))")
        self.assertEqual(first_rule(self.source, program[2][0])[0][0], "below")
        self.assertEqual(dict(self.source.known())["look"], (("m", "map"), ("k", "name")))
        end, state = self.through(program)
        self.assertEqual((end, write_term(state[0])), ("value", "{'k (num 7)}"))

    def test_steps_and_machines(self):
        program = self.term(PROGRAMS[0])
        end, machine = machine_run(self.source, program, moves=1000)
        self.assertEqual((end, machine.state()), ("value", run(self.source, program, steps=100)[2]))
        self.assertEqual([row[1] for row in machine.contractions], [row[0] for row in trace(self.source, program, steps=100)])
        self.assertEqual(Machine(self.source, program).state()[0], program)
        self.assertEqual(self.through(program), ("value", (self.term("(num 3)"), (), (0, 1, 2))))

    def test_conditions(self):
        conditions = [condition for rule in self.source.rules if rule[0] == "below" for condition in rule[2]]
        solution = solve(conditions)
        self.assertEqual(solution, {"x": num(0), "y": num(1)})
        self.assertTrue(follows(conditions, ("integer", "x")))
        self.assertFalse(is_possible(conditions + [("equal", ("meta", "x"), ("meta", "y"))]))
        program = node("less", node("num", solution["x"]), node("num", solution["y"]))
        self.assertEqual(self.through(program), ("value", (("name", "yes"), (), ())))

    def test_coverage(self):
        redex = common_redex(self.source, "below", "above")
        self.assertEqual(first_rule(self.source, redex)[0][0], "below")
        self.assertEqual(self.through(redex)[1][0], ("name", "yes"))
        self.assertEqual(self.through(first_redex(self.source, "above"))[1][0], ("name", "no"))
        self.assertEqual(self.through(stuck_redex(self.source, "look"))[0], "stuck")
        self.assertIsNone(stuck_redex(self.source, "up_to"))

    def test_symbolic_steps(self):
        rows = step_cases(self.source, self.term("(less $x $y)"), ["x", "y"])
        entries = dict(self.paper)["less"]
        asked = [row[3] for row in rows if row[2] == "ask"]
        # Up to the first step of the source the judge asks the same; then the target asks how y and x + 1 compare.
        judged_on = [entry[1] for entry in entries if entry[0] == "ask"]
        self.assertEqual((judged_on[:5], asked[4]), (asked[:5], ("order", ("sum", ((3, 1),), 0), ("sum", ((4, 1),), 0))))
        self.assertEqual(judged_on[5], ("order", ("sum", ((4, 1),), 0), ("sum", ((3, 1),), 1)))
        self.assertEqual(self.through(self.term("(less (num 5) (num 5))"))[1][0], ("name", "no"))

    def test_passes(self):
        self.assertEqual((check_pass(self.source, self.target, self.rows), faults(self.source, self.target, self.rows)), (self.rows, []))
        back = [(row[0], tuple("xyz"[:row[1]]), node(f"{row[0]}2", *[("meta", word) for word in "xyz"[:row[1]]])) for row in TARGET]
        last = read_language([(f"{row[0]}2",) + row[1:] for row in TARGET], [])
        both = compose(self.rows, check_pass(self.target, last, back))
        program = self.term(PROGRAMS[1])
        self.assertEqual(translate(both, program), translate(back, translate(self.rows, program)))
        self.assertEqual(source_of(both, translate(both, program)), program)
        self.assertEqual(self.through(program)[1][0], self.term("(num 5)"))
        bench = self.bench()
        bench.set_language("last", last)
        bench.set_pass("q", "low", "last", back)
        bench.compose("both", "p", "q")
        self.assertEqual((bench.rows("both"), bench.translated("both", program)), (both, translate(both, program)))
        # No rule is left there, so that already the first step is not followed.
        self.assertEqual((bench.judge("both", most=2).verdict, bench.follow("both", program, most=2, steps=9)[0]), ("no", "parted"))

    def test_the_judge(self):
        self.assertEqual(judge(self.source, self.target, self.rows, most=2).paper, self.paper)
        check_programs(self, self.source, self.target, self.rows, [self.term(text) for text in PROGRAMS], 2, 40)
        parting = judged(self, self.source, self.target, self.rows, 1).parting
        self.assertEqual((parting.rule, parting.run[0][0][1]), ("loop", "go"))
        self.assertEqual(follow(self.source, self.target, self.rows, self.term(PROGRAMS[0]), most=1, steps=9)[0], "parted")
        other = read_language(TARGET, [rule for rule in TARGET_RULES if rule[0] != "no"])
        parting = judged(self, self.source, other, self.rows, 2).parting
        self.assertEqual((parting.rule, parting.state[0][2][0], parting.run), ("else", ("name", "no"), ()))
        self.assertFalse(check_paper(self.source, other, self.rows, self.paper, most=2))
        self.assertEqual(self.through(self.term(PROGRAMS[3]))[1], (self.term("(num 9)"), (), (9,)))

    def test_runs_side_by_side(self):
        program = self.term(PROGRAMS[0])
        session = Session(self.source, self.target, self.rows, program, most=2, limit=300)
        last, end = session.end()
        self.assertEqual((end, last), ("value", run(self.source, program, steps=300)[1]))
        session.go(last)
        self.assertEqual((session.state(), session.image()), follow(self.source, self.target, self.rows, program, most=2, steps=300)[2:])
        self.assertEqual(session.target_steps(), run(self.target, translate(self.rows, program), steps=400)[1])
        self.assertEqual((session.search(["loop"], backwards=True) is not None, session.search(["loop"])), (True, None))
        self.assertEqual(session.where(session.target_steps()), (last, 0))
        self.through(program)

    def test_sources(self):
        self.assertIsNone(two_sources(self.rows))
        rows = self.rows[:-1] + (("up_to", ("i", "n"), node("then", ("meta", "n"), ("meta", "i"))),)
        first, second, translation = two_sources(rows)
        self.assertEqual((first[1], second[1], translate(rows, first), translate(rows, second)), ("seq", "up_to", translation, translation))
        self.assertEqual(source_of(rows, translation), first)
        self.assertNotEqual(judge(self.source, self.target, rows, most=2).verdict, "yes")
        self.through(self.term(PROGRAMS[2]))

    def test_the_bench(self):
        bench = self.bench()
        for text in PROGRAMS:
            program = self.term(text)
            self.assertEqual(bench.run("high", program, steps=99), run(self.source, program, steps=99))
            self.assertEqual(bench.source("p", bench.translated("p", program)), program)
            self.through(program)
        verdicts = [bench.judge("p", most=most).verdict for most in (1, 2, 2)]
        bench.set_language("low", read_language(TARGET, TARGET_RULES[1:]))
        verdicts.append(bench.judge("p", most=2).verdict)
        bench.undo()
        verdicts.append(bench.judge("p", most=2).verdict)
        self.assertEqual((verdicts, bench.work(), len(bench)), (["no", "yes", "yes", "no", "yes"], (3, 2), 3))


if __name__ == "__main__":
    unittest.main()
