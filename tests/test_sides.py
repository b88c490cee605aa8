"""passproven.sides: the promises I1 to I4."""

import unittest

from building import addr, chain, mapping, meta, name, node, num, rows_of, same_rows, wide
from drawing import Drawing
from passproven import stepping
from passproven.errors import TooLarge
from passproven.judging import TooManyCases, judge
from passproven.languages import Language, read_language
from passproven.passes import translate
from passproven.sides import follow, translate_state
from passproven.terms import height, size
from walking import PROGRAMS, ROWS, SOURCE, TARGET, changed_target, term


def naive(source, target, rows, program, most, steps):
    """The run of I2 and I3, made from the beginning for each of its parts."""
    def image(state):
        return (translate(rows, state[0]), tuple(translate(rows, inner) for inner in state[1]), state[2])

    state, followed = (program, (), ()), ()
    while True:
        here = (followed, state, image(state))
        told = stepping.step(source, state)
        if told[0] != "next":
            return (told[0],) + here
        if len(followed) == steps:
            return ("more",) + here
        try:
            goal = image(told[1])
        except TooLarge:
            return ("large",) + here
        if stepping.is_large(told[1]) or stepping.is_large(goal):
            return ("large",) + here
        reached, many = image(state), 0
        while many == 0 or reached != goal:
            after = stepping.step(target, reached)
            if many == most or after[0] != "next":
                return ("parted",) + here
            reached, many = after[1], many + 1
            if stepping.is_large(reached):
                return ("large",) + here
        state, followed = told[1], followed + ((told[2], many),)


class Following(unittest.TestCase):
    def follow(self, text, most=3, steps=20, source=SOURCE, target=TARGET, rows=ROWS):
        program = term(text) if isinstance(text, str) else text
        found = follow(source, target, rows, program, most=most, steps=steps)
        self.assertEqual(follow(source, target, rows, program, most=most, steps=steps), found)
        self.assertEqual(found, naive(source, target, rows, program, most, steps))
        return found

    def ends(self, end, followed, *arguments, **more):
        found = self.follow(*arguments, **more)
        self.assertEqual((found[0], len(found[1])), (end, followed))
        return found


class States(unittest.TestCase):
    """I1"""

    def test_translated(self):
        state = (term("(add (num 1) (box loop))"), (term("(num 2)"), addr(0), mapping(a=term("(num 1)"))), (7, -7))
        self.assertEqual(translate_state(ROWS, state), (
            node("plus_", node("b", node("spin"), node("b", num(1), node("b", num(2), node("b", num(3), num(4))))), node("i", num(1))),
            (node("i", num(2)), addr(0), mapping(a=node("i", num(1)))), (7, -7)))

    def test_too_large(self):
        self.assertEqual(translate_state(ROWS, (node("num", wide(3998)), (), ()))[0], node("i", wide(3998)))
        self.assertRaises(TooLarge, translate_state, ROWS, (node("num", wide(3999)), (), ()))
        self.assertRaises(TooLarge, translate_state, ROWS, (num(1), (num(2), node("num", wide(3999))), ()))
        # Each term by itself may be as large as a translation may be.
        state = (node("num", wide(3998)), (node("num", wide(3998)),), ())
        self.assertEqual(translate_state(ROWS, state)[1], (node("i", wide(3998)),))


class Steps(Following):
    """I2"""

    def test_the_examples(self):
        source = read_language([("two", 1, "plain", [0])], [("go", "(two $x)", [], "", "$x")])
        target = read_language([("a", 1, "plain", [0]), ("b", 1, "plain", [0])], [("first", "(a $x)", [], "", "(b $x)"), ("last", "(b $x)", [], "", "$x")])
        rows = rows_of(source, target, "two x: (a $x)")
        self.assertEqual(follow(source, target, rows, ("node", "two", (("int", 5),)), most=2, steps=10),
                         ('value', (('go', 2),), (('int', 5), (), ()), (('int', 5), (), ())))
        self.assertEqual(follow(source, target, rows, ("node", "two", (("int", 5),)), most=1, steps=10)[0], 'parted')

    def test_one_two_and_three_steps(self):
        self.assertEqual(self.follow("(seq (add (num 1) (num 2)) (down (num 1)))"), (
            "value", (("sum", 2), ("seq", 1), ("less", 3), ("none", 3)), (term("(num 0)"), (), ()), (node("i", num(0)), (), ())))
        self.assertEqual(self.follow("(seq (add (num 1) (num 2)) (down (num 1)))", most=2)[:2], ("parted", (("sum", 2), ("seq", 1))))
        self.assertEqual(self.follow("(seq (add (num 1) (num 2)) (down (num 1)))", most=1)[:2], ("parted", ()))

    def test_one_step_later_than_it_may(self):
        for most, end in ((1, "parted"), (2, "parted"), (3, "value"), (4, "value"), (1000, "value")):
            self.assertEqual(self.follow("(down (num 0))", most=most)[0], end)

    def test_all_three_parts_are_compared(self):
        self.ends("parted", 0, "(out (num 5))", target=changed_target("say", "(say (i $i))", ["(integer $i)"], "(put 6)", "(i $i)"))
        self.ends("parted", 0, "(out (num 5))", target=changed_target("say", "(say (i $i))", ["(integer $i)"], "", "(i $i)"))
        self.ends("parted", 0, "(out (num 5))", target=changed_target("say", "(say (i $i))", ["(integer $i)"], "(put $i)", "(i 6)"))
        self.ends("parted", 0, "(cell (num 5))", target=changed_target("ref", "(ref $v)", [], "(new (i $v) $n)", "$n"))
        self.ends("parted", 2, "(seq (cell (num 5)) (keep @0 (num 6)))", target=changed_target("poke", "(poke $v $a)", ["(address $a)"], "(write $a 6)", "$v"))
        self.ends("value", 3, "(seq (cell (num 5)) (keep @0 (num 6)))")

    def test_at_least_one_step(self):
        self.ends("more", 20, "loop")
        self.assertEqual(self.follow("loop", most=5)[1], (("loop", 1),) * 20)
        # Without the rule the state of the target is the translation before its first step only.
        self.ends("parted", 0, "loop", target=changed_target("spin"))
        self.ends("value", 3, "(add (down (num 0)) (down (num 0)))")

    def test_the_target_starts_anew_behind_each_step(self):
        # A target that goes on by itself beyond the translation is brought back to it.
        source = read_language([("f", 1, "plain", [0]), ("g", 1, "plain", [0]), ("h", 1, "plain", [0])],
                               [("f", "(f $x)", [], "", "(g $x)"), ("g", "(g $x)", [], "", "(h $x)"), ("h", "(h $x)", [], "", "$x")])
        found = self.follow(node("f", num(1)), most=1, source=source, target=source, rows=same_rows(source))
        self.assertEqual(found[:2], ("value", (("f", 1), ("g", 1), ("h", 1))))
        target = Language(source.constructors, source.rules[1:])
        found = self.follow(node("f", num(1)), most=9, source=source, target=target, rows=same_rows(source))
        self.assertEqual(found, ("parted", (), (node("f", num(1)), (), ()), (node("f", num(1)), (), ())))

    def test_stores_and_outputs(self):
        found = self.follow("(seq (cell (add (num 1) (num 2))) (seq (keep @0 (out (num 4))) (out (load @0))))")
        self.assertEqual(found[0], "value")
        self.assertEqual(found[2], (term("(num 4)"), (term("(num 4)"),), (4, 4)))
        self.assertEqual(found[3], (node("i", num(4)), (node("i", num(4)),), (4, 4)))
        self.assertEqual([rule for rule, _ in found[1]], ["sum", "cell", "seq", "out", "keep", "seq", "load", "out"])

    def test_all_programs(self):
        for text in PROGRAMS:
            for most in (1, 2, 3, 7):
                for steps in (0, 1, 2, 20):
                    found = self.follow(text, most, steps)
                    run = stepping.run(SOURCE, term(text), steps=len(found[1]))
                    self.assertEqual(found[2], run[2])
                    self.assertEqual(found[3], translate_state(ROWS, run[2]))

    def test_kept_passes_do_not_part(self):
        followed = 0
        for seed in range(300, 340):
            drawn = Drawing(seed)
            source = drawn.language(drawn.dice.randint(1, 8))
            target, rows = drawn.image(source)
            try:
                verdict = judge(source, target, rows, most=2).verdict
            except TooManyCases:
                continue
            for _ in range(8):
                program = drawn.program(4)
                found = self.follow(program, 2, 20, source, target, rows)
                followed += len(found[1])
                self.assertTrue(verdict != "yes" or found[0] != "parted")
        self.assertGreater(followed, 50)


class Ends(Following):
    """I3"""

    def test_value(self):
        for text in ("5", "(num 7)", "(box stop)"):
            for steps in (0, 5):
                self.assertEqual(self.follow(text, steps=steps)[:3], ("value", (), (term(text), (), ())))
        self.ends("value", 1, "(add (num 1) (num 2))", steps=1)

    def test_stuck(self):
        for text in ("stop", "(load @0)", "(add (num 'a) (num 1))", "(down (num -1))"):
            for steps in (0, 5):
                self.ends("stuck", 0, text, steps=steps)
        self.ends("stuck", 2, "(seq (out (num 1)) stop)", steps=2)
        # Nothing is asked of the target where the source makes no step.
        self.ends("stuck", 0, "stop", target=changed_target("spin", "halt", [], "", "halt"))

    def test_more(self):
        self.ends("more", 0, "(add (num 1) (num 2))", steps=0)
        self.ends("more", 3, "(down (num 3))", steps=3)
        self.ends("value", 4, "(down (num 3))", steps=4)
        # Nothing else is asked about that step: neither of the target, nor of what would be large.
        self.ends("more", 0, "(add (num 1) (num 2))", steps=0, target=changed_target("p1"))
        self.ends("more", 0, "(add (num 999999999999999) (num 1))", steps=0)

    def test_the_next_state_is_large(self):
        self.ends("large", 0, "(add (num 999999999999999) (num 1))")
        self.ends("value", 1, "(add (num 999999999999999) (num 0))")
        # Before it is asked whether the target comes there.
        self.ends("large", 0, "(add (num 999999999999999) (num 1))", target=changed_target("p1"))
        self.ends("large", 0, "(add (num 999999999999999) (num 1))", most=1)

    def test_nesting_and_terms_of_the_next_state(self):
        found = self.follow("(grow 0)", steps=200)
        # The node grow and 99 nodes num are nested 100 deep; the step behind it is not made.
        self.assertEqual((found[0], len(found[1]), height(found[2][0])), ("large", 99, 100))
        found = self.follow(node("seq", num(1), node("box", wide(397))))
        self.assertEqual(found[0], "large")

    def with_bulk(self, many):
        """A program that becomes a term of so many terms in one step."""
        return node("seq", num(1), node("num", wide(many - 2)))

    def test_400_and_401_terms(self):
        for many, end in ((400, "value"), (401, "large")):
            program = self.with_bulk(many)
            self.assertEqual(size(program[2][1]), many)
            self.assertEqual(self.follow(program)[0], end)

    def test_nested_100_and_101_deep(self):
        for deep, end in ((100, "value"), (101, "large")):
            self.assertEqual(self.follow(node("seq", num(1), chain(deep, num(0), "num")))[0], end)

    def test_its_translation_is_large(self):
        # A box has two terms, and its translation has nine.
        for boxes, more, end in ((44, 2, "value"), (44, 3, "large"), (45, 0, "large")):
            entries = {f"w{n}": node("box", num(0)) for n in range(boxes)}
            entries.update({f"v{n}": num(0) for n in range(more)})
            program = node("seq", num(1), node("num", mapping(**entries)))
            image = translate(ROWS, program[2][1])
            self.assertEqual(size(image) > 400, end == "large")
            self.assertLess(size(program), 150)
            self.assertEqual(self.follow(program)[0], end)
            self.assertEqual(self.follow(program, target=changed_target("then"))[0], "parted" if end == "value" else "large")

    def test_its_translation_is_nested_deep(self):
        source = read_language([("seq", 2, "plain", [0]), ("s", 1, "value", [0])], [("seq", "(seq $x $y)", [], "", "$y")])
        target = read_language([("seq", 2, "plain", [0]), ("t", 1, "value", [0])], [("seq", "(seq $x $y)", [], "", "$y")])
        rows = rows_of(source, target, "seq x y: (seq $x $y)", "s x: (t (t $x))")
        for deep, end in ((50, "value"), (51, "large"), (99, "large")):
            self.ends(end, int(end == "value"), node("seq", num(1), chain(deep)), source=source, target=target, rows=rows)

    def test_its_translation_is_rejected(self):
        # A node s becomes more than 200 parts; behind the step there are two more of them, and then too many parts.
        source = read_language([("f", 1, "plain", [0]), ("s", 1, "value", [0])], [("f", "(f $x)", [], "", "(s (s $x))")])
        target = read_language([("f", 1, "plain", [0]), ("t", 6, "value", [0])], [("f", "(f $x)", [], "", "(t 1 1 1 1 1 1)")])
        template = node("t", meta("x"), *[node("t", *[node("t", *map(num, range(6)))] * 6)] * 5)
        rows = (("f", ("x",), node("f", meta("x"))), ("s", ("x",), template))
        each = size(template) - 1
        program = node("f", chain(4000 // each - 1))
        self.assertEqual(size(translate(rows, program)), (4000 // each - 1) * each + 2)
        self.assertRaises(TooLarge, translate, rows, chain(4000 // each + 1))
        found = self.follow(program, source=source, target=target, rows=rows)
        self.assertEqual((found[0], found[1]), ("large", ()))

    def test_the_target_comes_to_a_large_state(self):
        source = read_language([("f", 1, "plain", [0])], [("f", "(f $x)", ["(integer $x)"], "", "1")])

        def target(*results):
            words = ["f"] + [f"f{n}" for n in range(1, len(results) + 1)]
            rules = [(word, f"({word} $x)", ["(integer $x)"], "", result) for word, result in zip(words, results)]
            return read_language([(word, 1, "plain", [0]) for word in words], rules)

        rows = (("f", ("x",), node("f", meta("x"))),)
        large = "(plus $x 999999999999999)"
        cases = [(["1"], 1, "value"), ([f"(f1 {large})", "1"], 2, "large"), ([f"(f1 {large})", "1"], 1, "large"), (["(f1 $x)", "1"], 2, "value"),
                 (["(f1 $x)", large], 2, "large"), (["(f1 $x)", large], 1, "parted"), (["(f1 $x)", "(f2 $x)", large], 3, "large"),
                 (["(f1 $x)", "(f2 $x)", large], 2, "parted"), (["1", large], 5, "value"), (["2"], 5, "parted"), (["(f1 $x)"], 1, "parted")]
        for results, most, end in cases:
            self.assertEqual(self.follow(node("f", num(1)), most, source=source, target=target(*results), rows=rows)[0], end, results)

    def test_large_outputs(self):
        source = read_language([("f", 1, "plain", [0])], [("f", "(f $x)", ["(integer $x)"], "(put $x)", "1")])
        more = read_language([("f", 1, "plain", [0])], [("f", "(f $x)", ["(integer $x)"], "(put (plus $x 1))", "1")])
        rows = (("f", ("x",), node("f", meta("x"))),)
        least = num(10 ** 15 - 1)
        self.assertEqual(self.follow(node("f", least), source=source, target=source, rows=rows)[0], "value")
        self.assertEqual(self.follow(node("f", least), source=source, target=more, rows=rows)[0], "large")
        self.assertEqual(self.follow(node("f", least), source=more, target=source, rows=rows)[0], "large")
        self.assertEqual(self.follow(node("f", num(0)), source=source, target=more, rows=rows)[0], "parted")

    def test_large_cells(self):
        self.assertEqual(self.follow(node("cell", wide(398)))[0], "value")
        self.assertEqual(self.follow(node("cell", wide(399)))[0], "large")
        entries = {f"w{n}": node("box", num(0)) for n in range(45)}
        self.assertEqual(self.follow(node("cell", mapping(**entries)))[0], "large")

    def test_the_program_may_be_large(self):
        program = node("seq", wide(900), node("add", node("num", num(1)), node("num", num(2))))
        self.ends("value", 2, program)
        self.ends("value", 0, wide(900))
        self.ends("value", 1, node("seq", node("num", num(10 ** 20)), name("a")))
        entries = {f"w{n}": node("box", num(0)) for n in range(90)}
        self.ends("value", 1, node("seq", mapping(**entries), num(1)))

    def test_the_number_of_followed_steps(self):
        for steps in range(6):
            found = self.follow("(down (num 3))", steps=steps)
            self.assertEqual((found[0], len(found[1])), ("value" if steps > 3 else "more", min(steps, 4)))


class Rejected(Following):
    """I4"""

    def test_the_program_is_rejected(self):
        for steps in (0, 5):
            self.assertRaises(TooLarge, follow, SOURCE, TARGET, ROWS, node("num", wide(3999)), most=1, steps=steps)
            self.assertRaises(TooLarge, follow, SOURCE, TARGET, ROWS, node("seq", num(1), wide(3999)), most=1, steps=steps)
        self.assertEqual(self.follow(node("num", wide(3998)))[0], "value")

    def test_arguments_stay(self):
        rows = [(word, list(words), template) for word, words, template in ROWS]
        program = term("(down (num 2))")
        before = (repr(rows), SOURCE.rules, TARGET.rules)
        self.assertEqual(follow(SOURCE, TARGET, rows, program, most=3, steps=9), follow(SOURCE, TARGET, ROWS, program, most=3, steps=9))
        self.assertEqual((repr(rows), SOURCE.rules, TARGET.rules), before)
        self.assertEqual(program, term("(down (num 2))"))


if __name__ == "__main__":
    unittest.main()
