"""passproven.instances: the promises H8 to H10, and the extensions of languages of H1."""

import unittest

from building import addr, mapping, meta, name, node, num, rows_of, same_rows
from judged import judged, told_by, told_of
from passproven.constructors import is_program, is_value
from passproven.errors import PassError
from passproven.instances import Extension, NoConstructor
from passproven.languages import Language, read_language
from passproven.stepping import run, step

SIX = [("f", 6, "plain", [0, 1, 2, 3, 4]), ("s", 1, "value", [0]), ("lazy", 2, "value", [1]), ("end", 0, "value", []), ("g", 1, "plain", [0])]


class Parted(unittest.TestCase):
    def parting(self, source, target, rows=None, most=1):
        judgement = judged(self, source, target, rows or same_rows(source, target), most)
        self.assertEqual(judgement.verdict, "no")
        return judgement.parting

    def alone(self, *rule, constructors=SIX, most=1):
        """The parting of a language with one rule from the language without it."""
        source = read_language(constructors, [("r",) + rule])
        return self.parting(source, read_language(constructors, []), most=most)

    def undecided(self, source, target, most=1, rows=None):
        judgement = judged(self, source, target, rows or same_rows(source, target), most)
        self.assertEqual(told_by(judgement), ("undecided", (), None, source.rules[0][1][1], None))


class Unknowns(Parted):
    """H8"""

    def control(self, conditions, pattern="(f $a $b $c $d $e $h)", result="$a"):
        parting = self.alone(pattern, conditions, "", result)
        self.assertEqual(parting.state[1:], ((), ()))
        return parting.state[0]

    def test_every_kind_of_unknown(self):
        conditions = ["(integer $a)", "(less 3 $a)", "(name $b)", "(address $c)", "(has $d 'k)", "(has $d $b)", "(not (has $d 'z))"]
        control = self.control(conditions)
        # The unknowns 7 and 8 are what was got from the map under k and under $b.
        self.assertEqual(control, node("f", num(4), name("k"), addr(0), mapping(k=node("#7")), node("#4"), node("?5")))
        control = self.control(conditions + ["(not (equal $b 'k))"])
        self.assertEqual(control, node("f", num(4), name("a"), addr(0), mapping(a=node("#8"), k=node("#7")), node("#4"), node("?5")))

    def test_constants(self):
        self.assertEqual(self.control([]), node("f", *[node(f"#{u}") for u in range(5)], node("?5")))
        source = read_language(SIX, [("r", "(f $a $b $c $d $e $h)", [], "", "$a")])
        target = read_language(SIX, [(f"r{n}", "(f $a $b $c $d $e $h)", [f"({sort} $b)"], "", "$a") for n, sort in enumerate(("integer", "name", "address", "map"))]
                               + [("s", "(f $a (s $b) $c $d $e $h)", [], "", "$a"), ("l", "(f $a (lazy $b $i) $c $d $e $h)", [], "", "$a"),
                                  ("e", "(f $a end $c $d $e $h)", [], "", "$a")])
        self.assertEqual(self.parting(source, target).state[0], node("f", *[node(f"#{u}") for u in range(5)], node("?5")))

    def test_constants_that_are_no_value(self):
        source = read_language(SIX, [("r", "(f $a $b $c $d $e $h)", [], "", "$a")])
        forms = ["(s $i)", "(lazy $i $j)", "(f $i $j $k $l $m $n)", "(g $i)", "end", "5", "'a", "@0"]
        rules = [(f"r{n}", f"(f $a $b $c $d $e {form})", [], "", "$a") for n, form in enumerate(forms)]
        # First come integers other than 5, the least one below 5 that is near 0.
        self.assertEqual(self.parting(source, read_language(SIX, rules)).state[0][2][5], num(0))

    def test_nodes(self):
        control = self.control(["(less $i 0)"], "(f $a (s (lazy $h $i)) $c $d $e (g $n))")
        self.assertEqual(control, node("f", node("#0"), node("s", node("lazy", node("?8"), num(-1))), node("#2"), node("#3"), node("#4"), node("g", node("?10"))))
        self.assertEqual(self.control([], "(f $a $b $c $d $e (s $n))")[2][5], node("s", node("#7")))
        self.assertEqual(self.control([], "(f $a $b $c $d $e end)")[2][5], node("end"))

    def test_integers_are_near_to_0(self):
        self.assertEqual(self.control(["(less $b $a)", "(less $c (plus $b -4))"])[2][:3], (num(0), num(-1), num(-6)))
        self.assertEqual(self.control(["(equal $a 7)", "(less $a $b)"])[2][:2], (num(7), num(8)))

    def test_names_and_addresses(self):
        control = self.control(["(equal $a $b)", "(name $a)", "(name $c)", "(not (equal $c $a))", "(not (equal $c 'a))"])
        self.assertEqual(control[2][:3], (name("b"), name("b"), name("c")))
        control = self.control(["(address $a)", "(not (equal $a @0))", "(address $b)", "(not (equal $b $a))", "(equal $c @9)", "(equal $c $d)"])
        self.assertEqual(control[2][:4], (addr(1), addr(2), addr(9), addr(9)))

    def test_maps(self):
        control = self.control(["(map $a)", "(has $b 'k)", "(not (has $c 'k))", "(map $c)", "(has $d $e)"])
        self.assertEqual(control[2][:5], (mapping(), mapping(k=node("#7")), mapping(), mapping(a=node("#8")), name("a")))

    def test_maps_hold_what_was_asked_for(self):
        source = read_language(SIX, [("r", "(f $a $b $c $d $e $h)", ["(has $a 'k)"], "", "(get $a 'k)")])
        target = read_language(SIX, [("r", "(f $a $b $c $d $e $h)", ["(has $a 'k)"], "", "5")])
        parting = self.parting(source, target)
        # What the map holds is known only to be a value, and hence is no integer.
        self.assertEqual((parting.state[0][2][0], parting.following[0], parting.run[0][0]), (mapping(k=node("#7")), node("#7"), num(5)))
        target = read_language(SIX, [("r", "(f $a $b $c $d $e $h)", ["(has $a 'k)"], "", "(g (get $a 'k))"), ("q", "(g $x)", ["(integer $x)"], "", "(plus $x 1)"),
                                     ("p", "(g $x)", [], "", "$x")])
        rows = rows_of(source, target, "f a b c d e h: (f $a $b $c $d $e $h)", "s x: (s $x)", "lazy a b: (lazy $a $b)", "end: end", "g x: (f $x 1 1 1 1 1)")
        parting = self.parting(source, target, rows, 2)
        self.assertEqual(parting.state[0][2][0], mapping(k=num(0)))
        self.assertEqual([state[0] for state in parting.run], [node("g", num(0)), num(1)])

    def test_names_that_a_map_has_only(self):
        # Whether the map has the name is known, but not what it holds there.
        source = read_language(SIX, [("r", "(f $a $b $c $d $e $h)", ["(map $a)"], "", "(set $a 'k 1)")])
        target = read_language(SIX, [("r", "(f $a $b $c $d $e $h)", ["(map $a)"], "", "$a")])
        self.assertEqual(self.parting(source, target).state[0][2][0], mapping(k=node("#7")))


class Cells(Parted):
    """H9"""

    def test_the_cells_that_an_action_needs(self):
        f, zero = "(f $a $b $c $d $e $h)", num(0)
        cases = [("", [], ()), ("(put 3)", [], ()), ("(new $a $n)", [], ()), ("(read @3 $n)", [], (zero, zero, zero, node("#6"))),
                 ("(write @2 $a)", [], (zero,) * 3), ("(read $b $n)", ["(address $b)"], (node("#6"),)), ("(write $b $a)", ["(equal $b @4)", "(address $b)"], (zero,) * 5),
                 ("(write $b 1)", ["(address $b)", "(not (equal $b @0))", "(address $a)"], (zero,) * 3)]
        for action, conditions, store in cases:
            parting = self.alone(f, conditions, action, "$a")
            self.assertEqual((parting.state[1], parting.state[2], parting.run), (store, (), ()))

    def test_the_address_that_was_found_for_a_new_cell(self):
        parting = self.alone("(f $a $b $c $d $e $h)", ["(address $a)", "(address $b)"], "(new (s $a) $n)", "$n")
        self.assertEqual(parting.state[0][2][:2], (addr(0), addr(1)))
        self.assertEqual(parting.state[1], (num(0), num(0)))
        self.assertEqual(parting.following, (addr(2), (num(0), num(0), node("s", addr(0))), ()))
        source = read_language(SIX, [("r", "(f $a $b $c $d $e $h)", ["(address $a)"], "(new $a $n)", "$n")])
        target = read_language(SIX, [("r", "(f $a $b $c $d $e $h)", ["(address $a)"], "(new $a $n)", "@3")])
        parting = self.parting(source, target)
        self.assertEqual((parting.state[0][2][0], parting.state[1], parting.following[0]), (addr(0), (num(0),), addr(1)))
        target = read_language(SIX, [("r", "(f $a $b $c $d $e $h)", ["(address $a)"], "(new $a $n)", "$a")])
        parting = self.parting(source, target)
        self.assertEqual((parting.state[0][2][0], parting.state[1], parting.run[0][0]), (addr(0), (num(0),), addr(0)))

    def test_what_was_read(self):
        source = read_language(SIX, [("r", "(f $a $b $c $d $e $h)", ["(address $a)"], "(read $a $n)", "(s $n)")])
        target = read_language(SIX, [("r", "(f $a $b $c $d $e $h)", ["(address $a)"], "(read $a $n)", "(g $n)"), ("q", "(g $n)", ["(less $n 9)"], "", "(s $n)"),
                                     ("p", "(g $n)", ["(not (integer $n))"], "", "(s $n)")])
        rows = rows_of(source, target, "f a b c d e h: (f $a $b $c $d $e $h)", "s x: (s $x)", "lazy a b: (lazy $a $b)", "end: end", "g x: (f $x 1 1 1 1 1)")
        parting = self.parting(source, target, rows, 2)
        self.assertEqual((parting.state[1], parting.following[0]), ((num(9),), node("s", num(9))))
        self.assertEqual(parting.run, ((node("g", num(9)), (num(9),), ()),))

    def language(self, action, conditions=(), result="$a"):
        return read_language(SIX, [("r", "(f $a $b $c $d $e $h)", list(conditions), action, result)])

    def test_at_most_200_cells(self):
        bare = read_language(SIX, [])
        for address, is_parting in ((199, True), (200, False), (999999999, False)):
            for action in (f"(read @{address} $n)", f"(write @{address} 1)"):
                if is_parting:
                    self.assertEqual(len(self.parting(self.language(action), bare).state[1]), 200)
                else:
                    self.undecided(self.language(action), bare)

    def test_at_most_200_cells_and_a_new_one(self):
        for address, is_parting in ((200, True), (201, False)):
            # The target asks whether the new address is this one, and parts only then.
            target = read_language(SIX, [("r", "(f $a $b $c $d $e $h)", [], "(new 1 $n)", "(g $n)"), ("q", "(g $x)", [f"(equal $x @{address})"], "", "'no"),
                                         ("p", "(g $x)", [], "", "'yes")])
            source = read_language(SIX, [("r", "(f $a $b $c $d $e $h)", [], "(new 1 $n)", "'yes")])
            rows = rows_of(source, target, "f a b c d e h: (f $a $b $c $d $e $h)", "s x: (s $x)", "lazy a b: (lazy $a $b)", "end: end", "g x: (f $x 1 1 1 1 1)")
            if is_parting:
                parting = self.parting(source, target, rows, 2)
                self.assertEqual((len(parting.state[1]), len(parting.following[1]), parting.run[0][0]), (200, 201, node("g", addr(200))))
            else:
                self.undecided(source, target, 2, rows)


class Runs(Parted):
    """H10"""

    LARGE = 10 ** 15

    def language(self, *rules):
        """Rules of f and g, both with one strict argument."""
        constructors = [("f", 1, "plain", [0]), ("g", 1, "plain", [0]), ("w", 6, "value", []), ("s", 1, "value", [0])]
        listed = []
        for number, (pattern, action, result) in enumerate(rules):
            read = read_language(constructors, [("r", pattern, ["(integer $x)"], action, "0")]).rules[0]
            listed.append((f"r{number}",) + read[1:4] + (result,))
        return Language(constructors, listed)

    def rows(self, source, target):
        return rows_of(source, target, "f x: (f $x)", "g x: (f (s $x))", "w a b c d e h: (w $a $b $c $d $e $h)", "s x: (s $x)")

    def check(self, source, target, most, is_parting, states=0):
        rows = self.rows(source, target)
        if is_parting:
            self.assertEqual(len(self.parting(source, target, rows, most).run), states)
        else:
            self.undecided(source, target, most, rows)

    def test_the_run(self):
        source = self.language(("(f $x)", "", num(1)))
        target = self.language(("(f $x)", "(put 7)", node("g", meta("x"))), ("(g $x)", "", node("f", meta("x"))))
        for most in (1, 2, 5):
            parting = self.parting(source, target, self.rows(source, target), most)
            self.assertEqual((parting.state, parting.following, parting.goal), ((node("f", num(0)), (), ()), (num(1), (), ()), (num(1), (), ())))
            states = [(node("fg"[step % 2], num(0)), (), (7,) * (step // 2 + step % 2)) for step in range(1, most + 1)]
            self.assertEqual(parting.run, tuple(states))
        target = self.language(("(f $x)", "", node("g", meta("x"))))
        self.assertEqual(self.parting(source, target, self.rows(source, target), 9).run, ((node("g", num(0)), (), ()),))

    def test_the_source_s_next_state_is_large(self):
        for n, is_parting in ((self.LARGE - 1, True), (self.LARGE, False), (-self.LARGE, False)):
            self.check(self.language(("(f $x)", "", num(n))), self.language(), 1, is_parting)
            self.check(self.language(("(f $x)", "(put 3)", num(n))), self.language(("(f $x)", "(put 3)", num(1))), 1, is_parting, 1)

    def test_its_outputs_are_large(self):
        for digits, is_parting in (("999999999999999", True), ("(plus 999999999999999 1)", False)):
            self.check(self.language(("(f $x)", f"(put {digits})", num(1))), self.language(("(f $x)", f"(put {digits})", num(2))), 1, is_parting, 1)

    def test_its_translation_is_large(self):
        constructors = [("f", 1, "plain", [0]), ("s", 6, "value", [])]
        target = read_language([("f", 1, "plain", [0]), ("w", 6, "value", [])], [])
        forty = node("w", *[node("w", num(1), num(2), num(3), num(4), num(5), num(6)) for _ in range(5)], node("w", *map(meta, "abcdef")))
        rows = (("f", ("x",), node("f", meta("x"))), ("s", tuple("abcdef"), forty))
        # The node of the template has 37 parts besides those for which the parameters stand.
        for many, is_parting in ((9, True), (10, False)):
            result = num(0)
            for _ in range(many):
                result = node("s", result, num(1), num(1), num(1), num(1), num(1))
            source = Language(constructors, [("r", node("f", meta("x")), (), None, result)])
            if is_parting:
                self.assertEqual(self.parting(source, target, rows).run, ())
            else:
                self.undecided(source, target, 1, rows)

    def test_the_target_comes_to_a_large_state(self):
        source = self.language(("(f $x)", "", num(1)))
        for more, is_parting in ((self.LARGE - 1, True), (self.LARGE, False)):
            grown = ("plus", meta("x"), num(more))
            first = ("(f $x)", "", node("g", grown))
            self.check(source, self.language(first), 1, is_parting, 1)
            self.check(source, self.language(first, ("(g $x)", "", num(2))), 5, is_parting, 2)
            self.check(source, self.language(("(f $x)", "", node("g", meta("x"))), ("(g $x)", "", grown)), 2, is_parting, 2)

    def test_a_large_state_behind_the_limit(self):
        source = self.language(("(f $x)", "", num(1)))
        target = self.language(("(f $x)", "", node("g", meta("x"))), ("(g $x)", "", num(self.LARGE)))
        self.check(source, target, 1, True, 1)
        self.check(source, target, 2, False)

    def test_a_large_state_behind_too_many_actions(self):
        grown = node("g", ("plus", meta("x"), num(self.LARGE)))
        source = self.language(("(f $x)", "", num(1)))
        self.check(source, self.language(("(f $x)", "(put 1)", grown)), 5, True, 0)
        self.check(source, self.language(("(f $x)", "(put 1)", node("g", meta("x"))), ("(g $x)", "", num(self.LARGE))), 5, True, 1)
        self.check(source, self.language(("(f $x)", "", grown), ("(g $x)", "(put 1)", num(2))), 5, False)
        source = self.language(("(f $x)", "(put 1)", num(1)))
        self.check(source, self.language(("(f $x)", "(put 2)", grown)), 5, False)
        self.check(source, self.language(("(f $x)", "(put 1)", grown), ("(g $x)", "(put 1)", num(2))), 5, False)
        self.check(source, self.language(("(f $x)", "(put 1)", node("g", meta("x"))), ("(g $x)", "(put 1)", num(self.LARGE))), 5, True, 1)
        self.check(source, self.language(("(f $x)", "", grown)), 5, False)

    def test_the_goal_with_another_number_of_actions(self):
        source = self.language(("(f $x)", "", num(1)))
        self.assertEqual(len(self.parting(source, self.language(("(f $x)", "(put 1)", num(1)))).run), 1)
        source = self.language(("(f $x)", "(put 1)", num(1)))
        target = self.language(("(f $x)", "", num(1)))
        self.check(source, target, 3, True, 1)
        # A read changes no state, so that only its number tells the runs apart.
        constructors = [("f", 1, "plain", [0])]
        read = read_language(constructors, [("r", "(f $x)", ["(address $x)"], "(read $x $v)", "$x")])
        none = read_language(constructors, [("r", "(f $x)", ["(address $x)"], "", "$x")])
        for source, target in ((read, none), (none, read)):
            parting = self.parting(source, target)
            self.assertEqual(parting.rule, "r")
        self.assertEqual(self.parting(read, none).run, (self.parting(read, none).goal,))

    def test_an_open_case_that_does_not_part(self):
        # All integers that are no number of the source's steps are 0.
        source = self.language(("(f $x)", "", ("plus", meta("x"), meta("x"))))
        self.check(source, self.language(("(f $x)", "", num(0))), 1, False)


class Extensions(unittest.TestCase):
    """H1"""

    def test_an_extension(self):
        language = read_language([("s", 1, "value", [0]), ("f", 1, "plain", [0])], [("r", "(f $x)", [], "", "(s $x)")])
        constants = (("#1", 0, "value", ()), ("?2", 0, "plain", ()))
        wide = Extension(language, constants)
        self.assertEqual((wide.constructors, wide.rules), (language.constructors + constants, language.rules))
        self.assertEqual(wide.constructor("s"), ("s", 1, "value", (0,)))
        self.assertEqual([wide.constructor(row[0]) for row in constants], list(constants))
        self.assertRaises(KeyError, language.constructor, "#1")
        self.assertTrue(is_program(wide, node("f", node("#1"))))
        self.assertTrue(is_value(wide, node("s", node("#1"))))
        self.assertFalse(is_value(wide, node("?2")))
        self.assertEqual(run(wide, node("f", node("#1")), steps=5), ("value", 1, (node("s", node("#1")), (), ())))
        self.assertEqual(step(wide, (node("f", node("?2")), (), ())), ("stuck",))

    def test_no_constructor(self):
        wide = Extension(read_language([("s", 1, "value", [0])], []), (("#1", 0, "value", ()),))
        for word in ("t", "#2", "?1", ""):
            self.assertRaises(NoConstructor, wide.constructor, word)
        self.assertTrue(issubclass(NoConstructor, PassError))

    def test_partings_may_be_changed(self):
        source = read_language(SIX, [("r", "(f $a $b $c $d $e $h)", [], "", "$a")])
        target = read_language(SIX, [])
        first = judged(self, source, target, same_rows(source, target)).parting
        before = told_of(first)
        first.state = first.run = first.goal = None
        self.assertEqual(told_of(judged(self, source, target, same_rows(source, target)).parting), before)


if __name__ == "__main__":
    unittest.main()
