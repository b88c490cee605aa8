"""passproven.judging: the promises H1 to H6 and H11 to H14."""

import unittest

from building import meta, name, node, num, rows_of, same_rows, unknown
from drawing import Drawing, is_right
from judged import CONSTRUCTORS, LANGUAGE, RULES, check_kept, check_programs, crowded_language, judged, told_by
from passproven.errors import PassError
from passproven.instances import Extension
from passproven.judging import Judgement, TooManyCases, judge
from passproven.languages import Language, read_language

INTEGER, STUCK = ("sum", ((0, 1),), 0), ("stuck",)


def small(*rules, constructors=()):
    """A language with the constructors f, g and h, a value s, and these rules."""
    listed = [("f", 2, "plain", [0]), ("g", 2, "plain", [0]), ("h", 1, "plain", [0]), ("s", 1, "value", [0])]
    return read_language(listed + list(constructors), [(f"r{n}",) + rule for n, rule in enumerate(rules)])


class Judging(unittest.TestCase):
    def judged(self, source, target, rows=None, most=1):
        return judged(self, source, target, rows or same_rows(source, target), most)

    def changed(self, word, *rule):
        """The language with another rule of a name, or without it."""
        rules = [row if row[0] != word else (word,) + rule for row in RULES if row[0] != word or rule]
        return read_language(CONSTRUCTORS, rules)

    def entries(self, source, target, constructor="f", rows=None, most=1):
        judgement = self.judged(source, target, rows, most)
        self.assertEqual(judgement.verdict, "yes")
        return dict(judgement.paper)[constructor]


class Kept(Judging):
    """H1 and H2"""

    def test_the_same_language(self):
        for most in (1, 2, 20):
            self.assertEqual(self.judged(LANGUAGE, LANGUAGE, most=most).verdict, "yes")

    def test_other_names_and_another_order_of_arguments(self):
        target = read_language(
            [("i", 1, "value", [0]), ("plus_", 2, "plain", [1, 0]), ("then", 2, "plain", [1]), ("ref", 1, "plain", [0]), ("peek", 1, "plain", [0]),
             ("poke", 2, "plain", [1, 0]), ("say", 1, "plain", [0]), ("with_", 3, "plain", [2, 0, 1]), ("at", 2, "plain", [1, 0]), ("halt", 0, "plain", []),
             ("cond", 3, "plain", [2]), ("spin", 0, "plain", [])],
            [("spin", "spin", [], "", "spin"), ("b", "(cond $x $y (i 0))", [], "", "$y"), ("c", "(cond $x $y (i $n))", ["(integer $n)"], "", "$x"),
             ("d", "(at $k $m)", ["(has $m $k)"], "", "(get $m $k)"), ("e", "(with_ $k $v $m)", ["(name $k)", "(map $m)"], "", "(set $m $k $v)"),
             ("f", "(say $i)", ["(integer $i)"], "(put $i)", "(i $i)"), ("g", "(poke $v $a)", ["(address $a)"], "(write $a $v)", "$v"),
             ("h", "(peek $a)", ["(address $a)"], "(read $a $v)", "$v"), ("j", "(ref $v)", [], "(new $v $n)", "$n"), ("k", "(then $y $x)", [], "", "$y"),
             ("l", "(plus_ (i $y) (i $x))", ["(integer $y)", "(integer $x)"], "", "(i (plus $y $x))")])
        rows = rows_of(LANGUAGE, target, "num x: (i $x)", "add x y: (plus_ $y $x)", "seq a b: (then $b $a)", "cell v: (ref $v)", "load a: (peek $a)",
                       "keep a v: (poke $v $a)", "out i: (say $i)", "put_on m k v: (with_ $k $v $m)", "look m k: (at $k $m)", "stop: halt",
                       "if_ a b c: (cond $c $b $a)", "loop: spin")
        judgement = self.judged(LANGUAGE, target, rows)
        self.assertEqual((judgement.verdict, [pair[0] for pair in judgement.paper]), ("yes", [row[0] for row in CONSTRUCTORS if row[2] == "plain"]))
        self.assertEqual(self.judged(LANGUAGE, target, [(word, list(words), template) for word, words, template in rows]).verdict, "yes")

    def test_two_steps(self):
        source = read_language([("two", 1, "plain", [0])], [("go", "(two $x)", [], "", "$x")])
        target = read_language([("a", 1, "plain", [0]), ("b", 1, "plain", [0])], [("first", "(a $x)", [], "", "(b $x)"), ("last", "(b $x)", [], "", "$x")])
        rows = rows_of(source, target, "two x: (a $x)")
        parting = self.judged(source, target, rows, 1).parting
        value = node("#0")
        self.assertEqual((parting.state, parting.rule, parting.following), ((node("two", value), (), ()), "go", (value, (), ())))
        self.assertEqual((parting.goal, parting.run), ((value, (), ()), ((node("b", value), (), ()),)))
        for most in (2, 3, 20):
            self.assertEqual(self.judged(source, target, rows, most).paper, (("two", (("met", 2),)),))

    def test_a_template_of_two_redexes(self):
        source = read_language([("both", 2, "plain", [0]), ("s", 1, "value", [0])], [("go", "(both $x $y)", [], "", "$y")])
        target = read_language([("seq", 2, "plain", [0]), ("twice", 1, "plain", [0]), ("t", 1, "value", [0])],
                               [("seq", "(seq $x $y)", [], "", "$y"), ("twice", "(twice $x)", [], "", "(t $x)")])
        rows = rows_of(source, target, "both x y: (seq (twice $x) $y)", "s x: (t $x)")
        self.assertEqual(self.judged(source, target, rows, 1).verdict, "no")
        self.assertEqual(self.judged(source, target, rows, 2).paper, (("both", (("met", 2),)),))

    def test_rules_that_are_left_out(self):
        for word in [rule[0] for rule in RULES if rule[0] not in ("yes", "no")]:
            judgement = self.judged(LANGUAGE, self.changed(word), most=2)
            self.assertEqual((judgement.verdict, judgement.parting.rule, judgement.parting.run), ("no", word, ()))
        self.assertEqual(self.judged(LANGUAGE, self.changed("yes")).parting.state[0], node("if_", node("num", num(0)), node("?1"), node("?2")))
        self.assertEqual(self.judged(LANGUAGE, self.changed("no")).parting.state[0], node("if_", node("num", num(-1)), node("?1"), node("?2")))

    def test_rules_that_the_source_does_not_have(self):
        for word in [rule[0] for rule in RULES]:
            judgement = self.judged(self.changed(word), LANGUAGE, most=2)
            self.assertEqual(judgement.verdict, "yes" if word != "yes" else "no")

    def test_rules_that_are_exchanged(self):
        rules = list(RULES)
        rules[8], rules[9] = rules[9], rules[8]
        judgement = self.judged(LANGUAGE, read_language(CONSTRUCTORS, rules))
        self.assertEqual((judgement.verdict, judgement.parting.state), ("no", (node("if_", node("num", num(0)), node("?1"), node("?2")), (), ())))
        self.assertEqual(judgement.parting.run, ((node("?2"), (), ()),))
        self.assertEqual(self.judged(LANGUAGE, read_language(CONSTRUCTORS, RULES[::-1])).verdict, "no")
        self.assertEqual(self.judged(LANGUAGE, read_language(CONSTRUCTORS, RULES[5:8] + RULES[8:] + RULES[:5])).verdict, "yes")

    def test_rules_that_are_changed(self):
        changes = [("sum", "(add (num $x) (num $y))", ["(integer $x)", "(integer $y)"], "", "(num (minus $x 1))"),
                   ("sum", "(add (num $x) (num $y))", ["(integer $x)", "(integer $y)", "(less $x 7)"], "", "(num (plus $x $y))"),
                   ("seq", "(seq $x $y)", [], "", "$x"), ("seq", "(seq (num $x) $y)", [], "", "$y"), ("look", "(look $m $k)", ["(has $m $k)", "(has $m 'q)"], "", "(get $m $k)"),
                   ("look", "(look $m $k)", ["(has $m $k)"], "", "$m"), ("put_on", "(put_on $m $k $v)", ["(map $m)", "(name $k)"], "", "(set $m 'k $v)"),
                   ("out", "(out $i)", ["(integer $i)"], "(put (plus $i 1))", "(num $i)"), ("loop", "loop", [], "", "(seq 1 loop)")]
        for word, *rule in changes:
            judgement = self.judged(LANGUAGE, self.changed(word, *rule), most=1)
            self.assertEqual((judgement.verdict, judgement.parting.rule), ("no", word))

    def test_what_is_kept_in_another_way(self):
        changes = [("sum", "(add (num $x) (num $y))", ["(integer $x)", "(not (name $y))", "(integer $y)"], "", "(num (minus (plus $y (plus $x 1)) 1))"),
                   ("no", "(if_ (num $n) $x $y)", ["(integer $n)", "(not (equal $n 0))"], "", "$y"),
                   ("put_on", "(put_on $m $k $v)", ["(map $m)", "(name $k)"], "", "(set (set $m $k 1) $k $v)")]
        for word, *rule in changes:
            self.assertEqual(self.judged(LANGUAGE, self.changed(word, *rule)).verdict, "yes")
        rules = [row for row in RULES if row[0] != "look"] + [
            ("one", "(look $m 'q)", ["(has $m 'q)"], "", "(get $m 'q)"), ("other", "(look $m $k)", ["(has $m $k)"], "", "(get $m $k)")]
        self.assertEqual(self.judged(LANGUAGE, read_language(CONSTRUCTORS, rules)).verdict, "yes")

    def test_what_is_not_kept_for_constants(self):
        # What the further constants of an extension are is known to no rule.
        source = small(("(f $x $y)", [], "", "$x"))
        target = small(("(f (s $z) $y)", [], "", "(s $z)"), ("(f $x $y)", ["(integer $x)"], "", "$x"), ("(f $x $y)", ["(name $x)"], "", "$x"),
                       ("(f $x $y)", ["(address $x)"], "", "$x"), ("(f $x $y)", ["(map $x)"], "", "$x"))
        self.assertEqual(self.judged(source, target).parting.state, (node("f", node("#0"), node("?1")), (), ()))

    def test_the_target_may_evaluate_what_stands_still_in_the_source(self):
        # The second argument is not evaluated in the source: it need not be a value.
        source = small(("(f $x $y)", [], "", "(s $y)"))
        target = read_language([("f", 2, "plain", [0, 1]), ("g", 2, "plain", [0]), ("h", 1, "plain", [0]), ("s", 1, "value", [0])], [("r", "(f $x $y)", [], "", "(s $y)")])
        self.assertEqual(self.judged(source, target).parting.state, (node("f", node("#0"), node("?1")), (), ()))

    def test_programs_of_a_kept_pass_run_alike(self):
        found = {}
        for seed in range(60):
            drawn = Drawing(seed)
            source = drawn.language(drawn.dice.randint(1, 8))
            target, rows = drawn.image(source)
            most = drawn.pick((2, 3))
            changed = drawn.changed(target)
            if drawn.chance(0.6) and is_right(target.constructors, changed):
                target = Language(target.constructors, changed)
            try:
                judgement = self.judged(source, target, rows, most)
            except TooManyCases:
                continue
            found[judgement.verdict] = found.get(judgement.verdict, 0) + 1
            if judgement.verdict == "yes":
                check_programs(self, source, target, rows, [drawn.program(4) for _ in range(10)], most)
                self.check_redexes(drawn, source, target, rows, most)
        self.assertGreater(found["yes"], 25)
        self.assertGreater(found["no"], 5)

    def check_redexes(self, drawn, source, target, rows, most):
        constants = (("#1", 0, "value", ()), ("?1", 0, "plain", ()))
        wide, other = Extension(source, constants), Extension(target, constants)
        rows = rows + tuple((row[0], (), node(row[0])) for row in constants)
        for rule in source.rules:
            for _ in range(10):
                control = self.instance(drawn, wide, rule[1], False)
                check_kept(self, wide, other, rows, (control, tuple(drawn.program(1, True) for _ in range(2)), ()), most)

    def instance(self, drawn, language, part, must_be_value):
        if part[0] == "meta":
            constants = [node("#1")] if must_be_value else [node("#1"), node("?1")]
            return drawn.pick(constants) if drawn.chance(0.2) else drawn.program(2, must_be_value)
        if part[0] != "node":
            return part
        _, _, kind, strict = language.constructor(part[1])
        is_strict = must_be_value or kind == "plain"
        return node(part[1], *[self.instance(drawn, language, inner, is_strict and place in strict) for place, inner in enumerate(part[2])])

    def test_translated_languages_are_kept(self):
        for seed in range(100, 130):
            drawn = Drawing(seed)
            source = drawn.language(drawn.dice.randint(1, 6))
            target, rows = drawn.image(source)
            try:
                self.assertEqual(judge(source, target, rows, most=2).verdict, "yes")
            except TooManyCases:
                pass


class ActionsOfSteps(Judging):
    """H2 and H5: actions"""

    # The source's step for each action, in a form with the address $x.
    ACTIONS = ("(new (s $x) $n)", "(read $x $n)", "(write $x (s $x))", "(put 5)")

    def begun(self, action):
        return small(("(f $x $y)", ["(address $x)"], action, "$x"))

    def test_the_same_action(self):
        for action in self.ACTIONS:
            self.assertEqual(self.judged(self.begun(action), self.begun(action)).verdict, "yes")

    def test_no_action_and_another_one(self):
        for action in self.ACTIONS:
            for other in ("",) + self.ACTIONS:
                judgement = self.judged(self.begun(action), self.begun(other), most=2)
                self.assertEqual(judgement.verdict, "yes" if action == other else "no")
                judgement = self.judged(self.begun(""), self.begun(other), most=2)
                self.assertEqual(judgement.verdict, "yes" if other == "" else "no")

    def step_by_step(self, *actions):
        """A language in which f makes a step with each of these actions."""
        constructors = [("f", 2, "plain", [0])] + [(f"f{n}", 2, "plain", [0]) for n in range(len(actions))] + [("s", 1, "value", [0])]
        words = ["f"] + [f"f{n}" for n in range(len(actions))]
        rules = [(word, f"({word} $x $y)", ["(address $x)"], action, f"({then} $x $y)") for word, then, action in zip(words, words[1:], actions)]
        rules.append(("end", f"({words[-1]} $x $y)", ["(address $x)"], "", "(s $x)"))
        return read_language(constructors, rules)

    def f_alone(self, action):
        return read_language([("f", 2, "plain", [0]), ("s", 1, "value", [0])], [("r", "(f $x $y)", ["(address $x)"], action, "(s $x)")])

    def test_once_twice_and_not_at_all(self):
        for action in self.ACTIONS:
            source = self.f_alone(action)
            for actions, verdict in (([action], "yes"), ([action, ""], "yes"), (["", action], "yes"), (["", action, ""], "yes"), (["", ""], "no"),
                                     ([action, action], "no"), (["", action, action], "no"), ([action, "(put 7)"], "no"), (["(put 7)", action], "no")):
                target = self.step_by_step(*actions)
                rows = rows_of(source, target, "f x y: (f $x $y)", "s x: (s $x)")
                judgement = self.judged(source, target, rows, 5)
                self.assertEqual(judgement.verdict, verdict, actions)
                if verdict == "yes":
                    self.assertIn(("met", len(actions) + 1), judgement.paper[0][1])
                    self.assertEqual(self.judged(source, target, rows, len(actions)).verdict, "no")
            target = self.step_by_step(action)
            rows = rows_of(self.f_alone(""), target, "f x y: (f $x $y)", "s x: (s $x)")
            self.assertEqual(self.judged(self.f_alone(""), target, rows, 5).verdict, "no")

    def test_parts_of_actions(self):
        source = small(("(f $x $y)", ["(address $x)"], "(write $x (s $x))", "$x"))
        for action in ("(write $x $x)", "(write @0 (s $x))", "(write $x (s @0))"):
            self.assertEqual(self.judged(source, small(("(f $x $y)", ["(address $x)"], action, "$x"))).verdict, "no")
        source = small(("(f $x $y)", ["(integer $x)"], "(put (plus $x 3))", "$x"))
        for action, verdict in (("(put (plus 3 $x))", "yes"), ("(put (plus 2 $x))", "no"), ("(put 3)", "no"), ("(put (minus 3 $x))", "undecided")):
            self.assertEqual(self.judged(source, small(("(f $x $y)", ["(integer $x)"], action, "$x"))).verdict, verdict)
        source = small(("(f $x $y)", [], "(new (s $x) $n)", "$n"))
        for action, result, verdict in (("(new (s $x) $n)", "$n", "yes"), ("(new $x $n)", "$n", "no"), ("(new (s $x) $n)", "@0", "no"), ("(new (s $x) $n)", "$x", "no")):
            self.assertEqual(self.judged(source, small(("(f $x $y)", [], action, result))).verdict, verdict)

    def test_what_an_action_brings(self):
        source = small(("(f $x $y)", ["(address $x)"], "(read $x $v)", "(s $v)"))
        target = small(("(f $x $y)", ["(address $x)"], "(read $x $w)", "(g $w $x)"), ("(g $w $x)", [], "", "(s $w)"))
        rows = rows_of(source, target, "f x y: (f $x $y)", "g x y: (f (f $x $y) 1)", "h x: (h $x)", "s x: (s $x)")
        self.assertIn(("met", 2), self.entries(source, target, rows=rows, most=2))
        other = small(("(f $x $y)", ["(address $x)"], "(read $x $w)", "(g $w $x)"), ("(g $w $x)", ["(integer $w)"], "", "(s $w)"))
        judgement = self.judged(source, other, rows, 2)
        self.assertEqual((judgement.verdict, judgement.parting.state[1]), ("no", (name("a"),)))

    def test_what_is_brought_is_asked_for(self):
        source = small(("(f $x $y)", ["(address $x)"], "(read $x $v)", "(s $v)"))
        target = small(("(f $x $y)", ["(address $x)"], "(read $x $w)", "(g $w $x)"), ("(g $w $x)", ["(integer $w)"], "", "(s $w)"), ("(g $w $x)", [], "", "(s $w)"))
        rows = rows_of(source, target, "f x y: (f $x $y)", "g x y: (f (f $x $y) 1)", "h x: (h $x)", "s x: (s $x)")
        met = ("met", 2)
        self.assertEqual(self.entries(source, target, rows=rows, most=2), (
            ("ask", ("shape", 0)), STUCK, STUCK, ("ask", ("shape", 2)), met, met, met, met, met, met, STUCK, STUCK, STUCK))


class Entries(Judging):
    """H3, H4, H5 and H14"""

    def test_the_order(self):
        source = small(("(f $x $y)", ["(less $x 3)"], "", "$y"), ("(h $x)", [], "", "$x"))
        judgement = self.judged(source, source)
        self.assertEqual(judgement.paper, (
            ("f", (("ask", ("shape", 0)), ("ask", ("order", INTEGER, ("sum", (), 3))), ("met", 1), STUCK, STUCK, STUCK, STUCK, STUCK, STUCK, STUCK)),
            ("g", (STUCK,)), ("h", (("met", 1),))))

    def test_only_plain_constructors(self):
        language = read_language([("b", 1, "value", [0]), ("a", 0, "plain", []), ("c", 0, "value", []), ("d", 0, "plain", [])], [("go", "a", [], "", "c")])
        self.assertEqual(self.judged(language, language).paper, (("a", (("met", 1),)), ("d", (STUCK,))))
        language = read_language([("b", 1, "value", [0])], [])
        self.assertEqual(self.judged(language, language).paper, ())

    def test_strict_arguments_are_values(self):
        language = small(("(f $x (s $y))", ["(not (name $x))"], "", "$y"))
        # In the place that is not strict there may be f, g and h, an s of a term that is no value, and constants of both kinds.
        inner = (("ask", ("shape", 0)), ("met", 1), STUCK) + (("met", 1),) * 4
        self.assertEqual(self.entries(language, language), (("ask", ("shape", 1)),) + (STUCK,) * 7 + inner + inner + (STUCK,) * 2)

    def test_the_unknown_that_is_kept_is_the_next_one(self):
        language = small(("(f $x (s $y))", [], "(new $x $n)", "(s (f $n $y))"))
        self.assertEqual(self.entries(language, language)[8:10], (("met", 1), ("met", 1)))
        source = small(("(f (s $x) $y)", ["(integer $x)"], "(new $x $n)", "$n"))
        asked = [entry[1] for entry in self.entries(source, source) if entry[0] == "ask"]
        self.assertEqual(asked, [("shape", 0), ("shape", 3)])

    def test_questions_of_the_target(self):
        source = small(("(f $x $y)", [], "", "$x"))
        target = small(("(f 5 $y)", [], "", "5"), ("(f $x $y)", [], "", "$x"))
        met = ("met", 1)
        self.assertEqual(self.entries(source, target), (("ask", ("shape", 0)), ("ask", ("order", INTEGER, ("sum", (), 5))), met, met, met, met, met, met, met, met))

    def test_questions_of_a_comparison(self):
        source = small(("(f $x $y)", ["(integer $x)"], "", "(s $x)"))
        target = small(("(f $x $y)", ["(less $x 0)"], "", "(g $x 0)"), ("(f $x $y)", [], "", "(s $x)"), ("(g $x $y)", [], "", "(s $x)"))
        rows = rows_of(source, target, "f x y: (f $x $y)", "g x y: (f (f $x 0) $y)", "h x: (h $x)", "s x: (s $x)")
        # After the first step nothing has to be asked, because the term and the goal are nodes of other constructors.
        entries = self.entries(source, target, rows=rows, most=2)
        self.assertEqual(entries[:5], (("ask", ("shape", 0)), ("ask", ("order", INTEGER, ("sum", (), 0))), ("met", 2), ("met", 1), ("met", 1)))

    def test_a_comparison_asks_before_a_further_step(self):
        source = small(("(f $x $y)", ["(integer $x)"], "", "(s $x)"))
        target = small(("(f $x $y)", [], "", "(g (s 0) $x)"), ("(g (s 0) $x)", [], "", "(s $x)"), constructors=[("t", 1, "value", [0])])
        rows = rows_of(source, target, "f x y: (f $x $y)", "g x y: (h (t (f $x $y)))", "h x: (h $x)", "s x: (s $x)")
        self.assertEqual(self.entries(source, target, rows=rows, most=2)[:3], (("ask", ("shape", 0)), ("met", 2), STUCK))
        plain = small(("(f $x $y)", [], "", "(s 0)"), ("(h $x)", [], "", "$x"))
        rows = same_rows(source, plain, f="x y: (f (s $x) $y)", h="x: (h $x)")
        judgement = self.judged(source, plain, rows, 2)
        self.assertEqual((judgement.verdict, judgement.parting.state[0][2][0]), ("no", num(1)))

    def test_the_first_is_the_term_and_the_second_the_goal(self):
        source = small(("(f $x $y)", ["(integer $x)", "(equal $x 4)"], "", "(s $x)"), ("(f $x $y)", ["(integer $x)"], "", "(s 4)"))
        target = small(("(f $x $y)", ["(integer $x)"], "", "(s (minus 8 $x))"))
        judgement = self.judged(source, target)
        self.assertEqual(judgement.verdict, "no")
        source = read_language([("f", 2, "plain", [0, 1]), ("t", 1, "value", [0])], [("r", "(f $x $y)", ["(integer $x)", "(integer $y)"], "", "(t $x)")])
        target = read_language([("f", 2, "plain", [0, 1]), ("t", 1, "value", [0])], [
            ("r", "(f $x $y)", [], "", "(t $y)")])
        self.assertEqual(self.judged(source, target).parting.state[0], node("f", num(0), num(-1)))

    def test_all_questions_on_one_path(self):
        constructors = [("f", 6, "plain", [0, 1, 2, 3, 4]), ("s", 1, "value", [0])]
        conditions = ["(less $a 5)", "(equal $b 'q)", "(equal $c @2)", "(has $d $b)", "(less $a (plus $e 1))"]
        source = read_language(constructors, [("r", "(f $a $b $c $d $e (s $h))", ["(address $c)"] + conditions, "(write $c $a)", "(get $d $b)")])
        entries = self.entries(source, source)
        asked = [entry[1] for entry in entries if entry[0] == "ask"]
        path = [("shape", 5), ("shape", 2), ("shape", 0), ("order", INTEGER, ("sum", (), 5)), ("shape", 1), ("same", unknown(1), name("q")),
                ("same", unknown(2), ("addr", 2)), ("shape", 3), ("has", 3, unknown(1)), ("get", 3, unknown(1)), ("shape", 4),
                ("order", INTEGER, ("sum", ((4, 1),), 1))]
        self.assertEqual(asked[:12], path)
        # The path is gone twice: with an s of a value, and with an s of a term that is none.
        self.assertEqual(asked[12:], path[1:])
        self.assertEqual(entries.count(("met", 1)), 2)

    def test_a_case_stands_ahead_of_those_that_replace_it(self):
        source = small(("(f (s (s $x)) $y)", [], "", "$x"))
        listed = (("ask", ("shape", 0)), STUCK, STUCK, STUCK, STUCK, ("ask", ("shape", 3)), STUCK, STUCK, STUCK, STUCK, ("met", 1), STUCK, STUCK)
        self.assertEqual(self.entries(source, source), listed)

    def test_the_shapes_are_those_of_the_source(self):
        source = small(("(f $x $y)", [], "", "$x"))
        target = small(("(f (s $z) $y)", [], "", "(s $z)"), ("(f $x $y)", [], "", "$x"), constructors=[(f"v{n}", 0, "value", []) for n in range(9)])
        self.assertEqual(self.entries(source, target), (("ask", ("shape", 0)),) + (("met", 1),) * 6)

    def test_unknowns_are_looked_at_through_templates(self):
        source = read_language([("f", 1, "plain", [0]), ("nil", 0, "value", []), ("s", 1, "value", [0])], [("r", "(f (s $x))", [], "", "$x")])
        target = read_language([("f", 1, "plain", [0]), ("pair", 2, "value", [0, 1])], [("r", "(f (pair 'some $x))", [], "", "$x")])
        rows = rows_of(source, target, "f x: (f $x)", "nil: (pair 'none 0)", "s x: (pair 'some $x)")
        self.assertEqual(self.judged(source, target, rows).paper, (("f", (("ask", ("shape", 0)),) + (STUCK,) * 5 + (("met", 1), STUCK)),))
        source = read_language(source.constructors, [("r", "(f $x)", [], "", "$x")])
        self.assertEqual(self.judged(source, target, rows).parting.state, (node("f", num(0)), (), ()))
        target = read_language(target.constructors, [("r", "(f (pair 'some $x))", [], "", "(pair 'some $x)"), ("q", "(f (pair $y 0))", [], "", "(pair $y 0)"),
                                                     ("p", "(f $x)", [], "", "$x")])
        met = ("met", 1)
        # The translation of s is compared in its first part, which is known, and its second one is not.
        self.assertEqual(self.judged(source, target, rows).paper, (("f", (("ask", ("shape", 0)),) + (met,) * 7),))

    def test_the_value_of_an_argument_is_asked(self):
        source = small(("(f $x $y)", [], "", "(h $y)"), ("(h $x)", [], "", "$x"))
        target = small(("(f $x $y)", [], "", "(g $y 0)"), ("(h $x)", [], "", "$x"), ("(g $x $y)", [], "", "(h $x)"))
        rows = same_rows(source, target, g="x y: (h (g $x $y))")
        judgement = self.judged(source, target, rows, 2)
        self.assertEqual((judgement.verdict, judgement.parting.state[0]), ("no", node("f", node("#0"), node("?1"))))
        target = small(("(f $x $y)", [], "", "(h $y)"), ("(h $x)", [], "", "$x"))
        self.assertEqual(self.entries(source, target), (("met", 1),))

    def test_goals_are_translated(self):
        source = read_language([("f", 2, "plain", [0]), ("s", 1, "value", [0]), ("d", 0, "plain", [])],
                               [("r", "(f $x $y)", ["(map $x)"], "(new {'a (s 1)} $n)", "(s (f {'b (s $n) 'c {'d (s $x)}} (f (set $x 'e (s (s 2))) d)))")])
        target = read_language([("g", 2, "plain", [1]), ("t", 2, "value", [1]), ("e", 0, "plain", [])],
                               [("r", "(g $y $x)", ["(map $x)"], "(new {'a (t 'q 1)} $n)",
                                 "(t 'q (g (g e (set $x 'e (t 'q (t 'q 2)))) {'b (t 'q $n) 'c {'d (t 'q $x)}}))")])
        rows = rows_of(source, target, "f a b: (g $b $a)", "s a: (t 'q $a)", "d: e")
        entries = (("ask", ("shape", 0)), STUCK, STUCK, STUCK, ("met", 1), STUCK, STUCK)
        self.assertEqual(self.entries(source, target, rows=rows), entries)
        for word in ("(new {'a (t 'q 1)} $n)", "'b (t 'q $n)", "'d (t 'q $x)", "(t 'q 2)"):
            rule = target.rules[0][:3]
            text = ("(new {'a (t 'q 1)} $n)", "(t 'q (g (g e (set $x 'e (t 'q (t 'q 2)))) {'b (t 'q $n) 'c {'d (t 'q $x)}}))")
            action, result = [part.replace(word, word.replace("'q", "'p")) for part in text]
            other = read_language(target.constructors, [(rule[0], "(g $y $x)", ["(map $x)"], action, result)])
            self.assertEqual(self.judged(source, other, rows).verdict, "no")

    def test_stuck_constructors(self):
        source = small(("(h $x)", ["(less $x $x)"], "", "$x"))
        self.assertEqual(self.judged(source, source).paper, (("f", (STUCK,)), ("g", (STUCK,)), ("h", (("ask", ("shape", 0)),) + (STUCK,) * 6)))
        # Nothing is asked of the target where the source makes no step.
        target = small(("(f $x $y)", [], "(put 7)", "(f $x $y)"))
        self.assertEqual(self.judged(small(), target, most=20).paper, (("f", (STUCK,)), ("g", (STUCK,)), ("h", (STUCK,))))


class Undecided(Judging):
    """H6 and H7"""

    def undecided(self, constructor, source, target, rows=None, most=1):
        self.assertEqual(told_by(self.judged(source, target, rows, most)), ("undecided", (), None, constructor, None))

    def integers(self, *rules):
        return read_language([("f", 2, "plain", [0, 1]), ("g", 1, "plain", [0]), ("t", 1, "value", [0])], [(f"r{n}",) + rule for n, rule in enumerate(rules)])

    BOTH = ["(integer $x)", "(integer $y)"]

    def test_sums_that_would_have_to_be_compared_in_a_step(self):
        source = self.integers(("(f $x $y)", self.BOTH, "", "(t 0)"))
        target = self.integers(("(f $x $y)", self.BOTH, "", "(g (plus $x $y))"), ("(g $n)", ["(less $n 0)"], "", "(t 0)"), ("(g $n)", ["(integer $n)"], "", "(t 0)"))
        rows = same_rows(source, target, g="x: (g (f $x 1))")
        self.undecided("f", source, target, rows, 2)
        # One step ends before the comparison; then the two part.
        self.assertEqual(self.judged(source, target, rows, 1).verdict, "no")
        target = self.integers(("(f $x $y)", self.BOTH, "", "(g (minus $x $y))"), ("(g $n)", ["(less $n 0)"], "", "(t 0)"), ("(g $n)", ["(integer $n)"], "", "(t 0)"))
        self.assertEqual(self.judged(source, target, rows, 2).verdict, "yes")
        target = self.integers(("(f $x $y)", self.BOTH, "", "(g (plus $x $x))"), ("(g 7)", [], "", "(t 0)"), ("(g $n)", [], "", "(t 0)"))
        self.undecided("f", source, target, rows, 2)

    def test_sums_that_cannot_be_asked_for_are_different(self):
        source = self.integers(("(f $x $y)", self.BOTH, "", "(t (plus $x $y))"))
        # Where both integers are 0 the two languages do not part.
        self.undecided("f", source, self.integers(("(f $x $y)", self.BOTH, "", "(t 0)")))
        self.undecided("f", self.integers(("(f $x $y)", self.BOTH, "", "(t 0)")), source)
        self.undecided("f", self.integers(("(f $x $y)", self.BOTH, "(put (plus $x $x))", "0")), self.integers(("(f $x $y)", self.BOTH, "(put 0)", "0")))
        judgement = self.judged(source, self.integers(("(f $x $y)", self.BOTH, "", "(t 1)")))
        self.assertEqual((judgement.verdict, judgement.parting.state[0]), ("no", node("f", num(0), num(0))))
        self.assertEqual(self.judged(source, self.integers(("(f $x $y)", self.BOTH, "", "(t (plus $y (plus $x 0)))"))).verdict, "yes")

    def test_sums_that_can_be_asked_for(self):
        source = self.integers(("(f $x $y)", self.BOTH, "", "(t (plus $x $y))"))
        target = self.integers(("(f $x $y)", self.BOTH, "", "(t (plus $x $x))"))
        judgement = self.judged(source, target)
        self.assertEqual((judgement.verdict, judgement.parting.state[0]), ("no", node("f", num(0), num(1))))

    def test_terms_of_many_parts(self):
        for many, entry in ((400, "yes"), (401, "undecided")):
            language = bulky_language("", many)
            self.assertEqual(self.judged(language, language).verdict, entry)
        self.undecided("f", bulky_language("", 401), bulky_language("", 401))

    def test_terms_of_many_parts_and_cells(self):
        for head in ("new", "write"):
            for cell, term, verdict in ((200, 200, "yes"), (200, 201, "undecided"), (201, 200, "undecided"), (399, 1, "yes"), (400, 1, "undecided")):
                stored = bulky(cell)
                action = ("new", stored, "n") if head == "new" else ("write", ("addr", 0), stored)
                language = bulky_language(action, term)
                self.assertEqual(self.judged(language, language).verdict, verdict)
        language = bulky_language(("put", num(1)), 400)
        self.assertEqual(self.judged(language, language).verdict, "yes")

    def with_map(self, entries):
        """A language whose f becomes a map, of which each entry counts twice among the parts of a symbolic term."""
        result = ("map", tuple((f"w{n:03}", num(0)) for n in range(entries)))
        return Language([("f", 1, "plain", [0])], [("r", node("f", meta("x")), (), None, result)])

    def test_entries_of_maps_count_twice(self):
        bare, small_one = read_language([("f", 1, "plain", [0])], []), self.with_map(1)
        for entries, is_parting in ((199, True), (200, False)):
            for source, target in ((self.with_map(entries), bare), (small_one, self.with_map(entries))):
                if is_parting:
                    self.assertEqual(self.judged(source, target).verdict, "no")
                else:
                    self.undecided("f", source, target)
        self.assertEqual(self.judged(self.with_map(199), self.with_map(199)).verdict, "yes")
        self.undecided("f", self.with_map(200), self.with_map(200))

    def test_the_target_alone(self):
        source, target = bulky_language("", 3), bulky_language("", 401)
        self.undecided("f", source, target)
        self.assertEqual(self.judged(source, bulky_language("", 400)).verdict, "no")
        later = bulky_language("", 401, through=399)
        self.assertEqual(self.judged(source, later, most=1).verdict, "no")
        self.undecided("f", source, later, most=2)


def bulky(many):
    """A term of so many parts that is not high."""
    if many == 1:
        return num(0)
    inner = min(6, many - 1)
    sizes = [(many - 1) // inner + (1 if n < (many - 1) % inner else 0) for n in range(inner)]
    return node(f"w{inner}", *[bulky(size) for size in sizes])


def bulky_language(action, many, through=None):
    """A language whose f becomes a term of so many parts; perhaps through another one of many parts and a further step."""
    constructors = [("f", 1, "plain", [0]), ("e", 1, "plain", [])] + [(f"w{n}", n, "value", list(range(n))) for n in range(1, 7)]
    if through is None:
        return Language(constructors, [("r", node("f", meta("x")), (), action or None, bulky(many))])
    return Language(constructors, [("r", node("f", meta("x")), (), None, node("e", bulky(through))), ("q", node("e", meta("x")), (), None, bulky(many))])


class Verdicts(Judging):
    """H11 to H13"""

    def test_faults(self):
        source = read_language([("f", 2, "plain", [0, 1])], [("r", "(f $x $y)", [], "", "$y")])
        target = read_language([("f", 2, "plain", [0, 1])], [])
        rows = rows_of(source, target, "f x y: (f $y $x)")
        self.assertEqual(told_by(self.judged(source, target, rows)), ("no", (("place", "f", 0),), None, None, None))
        # Where no case is looked at, there cannot be too many.
        crowded = crowded_language(1, 25, 6)
        rows = same_rows(crowded, f="x y: (f $y $x)")
        self.assertEqual(self.judged(crowded, crowded, rows).faults, (("place", "f", 0),))

    def three(self, *results):
        rules = [(word, f"({word} $x)", ["(integer $x)"], "", result) for word, result in zip("fgh", results)]
        return read_language([(word, 1, "plain", [0]) for word in "fgh"], rules)

    def test_the_first_parting(self):
        source = self.three("1", "1", "1")
        for results, rule in ((("2", "2", "2"), "f"), (("1", "2", "2"), "g"), (("1", "1", "2"), "h"), (("1", "2", "1"), "g")):
            self.assertEqual(self.judged(source, self.three(*results)).parting.rule, rule)
        backwards = Language(source.constructors[::-1], source.rules)
        target = Language(source.constructors[::-1], self.three("2", "2", "2").rules)
        self.assertEqual(self.judged(backwards, target).parting.rule, "h")
        self.assertEqual(self.judged(backwards, self.three("2", "2", "2")).parting.rule, "h")

    def test_the_first_case(self):
        source = small(("(f $x $y)", [], "", "$x"))
        target = small(("(f $x $y)", ["(name $x)"], "", "$x"), ("(f $x $y)", ["(integer $x)"], "", "$x"))
        self.assertEqual(self.judged(source, target).parting.state[0][2][0], ("addr", 0))
        target = small(("(f (s (s $x)) $y)", [], "", "(s (s $x))"), ("(f (s $x) $y)", ["(integer $x)", "(less $x 9)"], "", "(s $x)"),
                       ("(f $x $y)", ["(integer $x)"], "", "$x"), ("(f $x $y)", ["(name $x)"], "", "$x"), ("(f $x $y)", ["(address $x)"], "", "$x"),
                       ("(f $x $y)", ["(map $x)"], "", "$x"))
        self.assertEqual(self.judged(source, target).parting.state[0][2][0], node("s", num(9)))

    def test_an_undecided_case_does_not_keep_from_a_parting(self):
        source = self.three("(plus $x $x)", "(plus $x $x)", "1")
        target = self.three("0", "0", "2")
        self.assertEqual(self.judged(source, target).parting.rule, "h")
        judgement = self.judged(source, self.three("0", "0", "1"))
        self.assertEqual((judgement.verdict, judgement.constructor), ("undecided", "f"))
        judgement = self.judged(source, self.three("(plus $x $x)", "0", "1"))
        self.assertEqual((judgement.verdict, judgement.constructor), ("undecided", "g"))
        source = read_language(source.constructors, [("f", "(f $x)", ["(integer $x)"], "", "(plus $x $x)"), ("e", "(f $x)", ["(name $x)"], "", "1")])
        target = read_language(source.constructors, [("f", "(f $x)", ["(integer $x)"], "", "0"), ("e", "(f $x)", ["(name $x)"], "", "2")])
        self.assertEqual(self.judged(source, target).parting.rule, "e")

    def test_many_cases(self):
        language = crowded_language(0, 31, 2)
        judgement = self.judged(language, language)
        self.assertEqual([(word, len(entries)) for word, entries in judgement.paper], [("e", 1), ("f", 500), ("g", 1), ("f2", 1), ("z", 1)])
        self.crowded("f", crowded_language(1, 25, 6))
        self.crowded("f", crowded_language(9, 40, 5))

    def crowded(self, constructor, source, target=None, most=1):
        target = target or source
        for _ in range(2):
            with self.assertRaises(TooManyCases) as caught:
                judge(source, target, same_rows(source, target), most=most)
            self.assertEqual(caught.exception.constructor, constructor)
        self.assertEqual(TooManyCases.__bases__, (PassError,))

    def test_many_cases_and_a_parting(self):
        plain = [("e", "(e $x)", [], "", "0"), ("z", "(z $x)", [], "", "0")]
        other = [("e", "(e $x)", [], "", "1"), ("z", "(z $x)", [], "", "1")]
        source = crowded_language(1, 25, 6, plain)
        self.crowded("f", source)
        for rules, rule in ((other, "e"), (plain[:1] + other[1:], "z"), (other[:1] + plain[1:], "e")):
            self.assertEqual(self.judged(source, crowded_language(1, 25, 6, rules)).parting.rule, rule)

    def test_a_parting_in_the_last_case(self):
        both = [f"(not ({sort} ${word}))" for word in "xy" for sort in ("integer", "name", "address", "map")]
        for n, m, k in ((0, 31, 2), (1, 25, 6)):
            source = crowded_language(n, m, k, [("last", "(f $x $y)", both, "", "0")])
            target = crowded_language(n, m, k, [("last", "(f $x $y)", both, "", "1")])
            if n == 0:
                self.assertEqual(self.judged(source, source).verdict, "yes")
                self.assertEqual(self.judged(source, target).parting.state[0], node("f", node("#0"), node("#1")))
            else:
                self.crowded("f", source, target)

    def test_a_parting_among_the_first_cases(self):
        rules = [("first", "(f $x $y)", ["(less $x -5)"], "", "0")]
        source, target = crowded_language(40, 10, 1, before=rules), crowded_language(40, 10, 1, before=[rules[0][:4] + ("1",)])
        self.assertEqual(self.judged(source, target).parting.rule, "first")

    def test_the_first_constructor_of_many_cases(self):
        source = crowded_language(5, 25, 0, twice=True)
        self.crowded("f", source)
        self.crowded("f2", Language([row for row in source.constructors if row[0] != "f"], [rule for rule in source.rules if rule[1][1] != "f"]))

    def test_many_cases_and_an_undecided_one(self):
        undecided = [("e", "(e $x)", ["(integer $x)"], "", "(plus $x $x)")]
        zero = [("e", "(e $x)", ["(integer $x)"], "", "0")]
        self.crowded("f", crowded_language(1, 25, 6, undecided), crowded_language(1, 25, 6, zero))

    def test_judgements_may_be_changed(self):
        source, target = self.three("1", "1", "1"), self.three("1", "2", "1")
        rows = same_rows(source, target)
        found = judge(source, target, rows, most=1)
        self.assertTrue(isinstance(found, Judgement))
        before = told_by(found)
        found.parting.state = found.verdict = None
        self.assertEqual(told_by(judge(source, target, rows, most=1)), before)


if __name__ == "__main__":
    unittest.main()
