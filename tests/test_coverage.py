"""passproven.coverage: the promises E1 to E4."""

import itertools
import random
import unittest

import naive
from building import addr, mapping, meta, name, node, num
from passproven.constructors import is_program, is_value
from passproven.coverage import TooManyCases, common_redex, first_redex, stuck_redex
from passproven.errors import PassError
from passproven.languages import Language, read_language
from passproven.ruling import applied, first_rule

CONSTRUCTORS = [("cmp", 2, "plain", [0, 1]), ("yes", 0, "value", []), ("no", 0, "value", [])]
EXAMPLE = [
    ("less", "(cmp $a $b)", ["(less $a $b)"], "", "yes"),
    ("big", "(cmp $a $b)", ["(less (plus $b 3) $a)"], "", "no"),
    ("same", "(cmp $a $b)", ["(equal $a $b)"], "", "yes"),
    ("three", "(cmp 3 $b)", [], "", "no"),
    ("rest", "(cmp $a $b)", ["(integer $a)", "(integer $b)"], "", "no"),
]

# Constructors of all kinds: with and without values among them, with strict arguments in another order.
WIDE = [("f", 2, "plain", [0, 1]), ("lazy", 2, "plain", [0]), ("none", 1, "plain", []), ("turn", 2, "plain", [1, 0]),
        ("p", 1, "value", [0]), ("box", 1, "value", []), ("end", 0, "value", [])]
BARE = [("f", 2, "plain", [0, 1]), ("lazy", 2, "plain", [0])]


def rules_of(*texts):
    """Rules r0, r1 and so on of a pattern and conditions, which make 0 of a redex."""
    return [(f"r{n}", text[0], list(text[1:]), "", "0") for n, text in enumerate(texts)]


def wide(*texts):
    return read_language(WIDE, rules_of(*texts))


def is_redex(language, term):
    if not is_program(language, term) or term[0] != "node":
        return False
    _, _, kind, strict = language.constructor(term[1])
    return kind == "plain" and all(is_value(language, term[2][place]) for place in strict)


class Coverage(unittest.TestCase):
    def rule(self, language, word):
        return next(rule for rule in language.rules if rule[0] == word)

    def common(self, language, first, second, is_there=True):
        for one, other in ((first, second), (second, first)):
            found = common_redex(language, one, other)
            self.assertEqual(found is not None, is_there, (one, other, found))
            if is_there:
                self.assertTrue(is_redex(language, found), found)
                for word in (one, other):
                    self.assertIsNotNone(applied(self.rule(language, word), found), (word, found))
        return found

    def first(self, language, word, is_there=True):
        found = first_redex(language, word)
        self.assertEqual(found is not None, is_there, (word, found))
        if is_there:
            self.assertTrue(is_redex(language, found), found)
            self.assertEqual(first_rule(language, found)[0][0], word)
        return found

    def stuck(self, language, word, is_there=True):
        found = stuck_redex(language, word)
        self.assertEqual(found is not None, is_there, (word, found))
        if is_there:
            self.assertTrue(is_redex(language, found), found)
            self.assertEqual(found[1], word)
            self.assertIsNone(first_rule(language, found))
        return found


class Example(Coverage):
    """The example of part E"""

    def setUp(self):
        self.language = read_language(CONSTRUCTORS, EXAMPLE)

    def test_common(self):
        found = self.common(self.language, "less", "three")
        self.assertEqual(found[2][0], num(3))
        self.assertGreater(found[2][1][1], 3)
        self.common(self.language, "less", "big", False)
        self.common(self.language, "same", "three")
        self.common(self.language, "less", "same", False)
        for word in ("less", "big", "same", "three", "rest"):
            self.common(self.language, word, word)

    def test_first(self):
        found = self.first(self.language, "rest")
        one, other = found[2]
        self.assertTrue(other[1] < one[1] < other[1] + 4 and one != num(3))
        for word in ("less", "big", "same", "three"):
            self.first(self.language, word)

    def test_stuck(self):
        self.stuck(self.language, "cmp")


class Overlaps(Coverage):
    """E2: common_redex"""

    def test_at_one_integer_only(self):
        language = wide(["(f $a $b)", "(less $a $b)", "(less $b 100)"], ["(f $a $b)", "(less 97 $a)"], ["(f $a 100)", "(less 99 $a)", "(less $a 101)"],
                        ["(f 100 $b)", "(not (less $b 100))"])
        self.assertEqual(self.common(language, "r0", "r1"), node("f", num(98), num(99)))
        self.assertEqual(self.common(language, "r2", "r3"), node("f", num(100), num(100)))
        self.common(language, "r0", "r2", False)

    def test_a_rule_and_itself(self):
        language = wide(["(f $a $b)"], ["(f $a $b)", "(less $a $b)", "(less $b $a)"], ["(f (p $a) (p (p 3)))", "(has $a 'k)"])
        self.common(language, "r0", "r0")
        self.common(language, "r1", "r1", False)
        found = self.common(language, "r2", "r2")
        self.assertEqual(found[2][1], node("p", node("p", num(3))))

    def test_different_constructors(self):
        language = wide(["(f $a $b)"], ["(turn $a $b)"])
        self.common(language, "r0", "r1", False)

    def test_patterns(self):
        language = wide(["(f (p $a) $b)"], ["(f $a (p $b))", "(not (integer $a))"], ["(f (box $a) $b)"], ["(f 1 $b)"], ["(f $a 'k)", "(less $a 2)"],
                        ["(f $a @1)"], ["(f $a @2)"])
        self.common(language, "r0", "r1")
        self.common(language, "r0", "r2", False)
        self.common(language, "r1", "r3", False)
        self.common(language, "r3", "r4")
        self.common(language, "r5", "r6", False)
        self.common(language, "r5", "r3")

    def test_a_node_where_the_other_rule_has_a_metavariable(self):
        language = wide(["(f (p $a) $b)"], ["(f $a $b)", "(integer $a)"], ["(f $a $b)", "(not (integer $a))"], ["(f $a $b)", "(equal $a $b)"],
                        ["(f $a $b)", "(not (equal $a $b))"], ["(f $a $b)", "(has $a 'k)"], ["(f $a $b)", "(not (less (plus $a 1) $b))"])
        for word, is_there in (("r1", False), ("r2", True), ("r3", False), ("r4", True), ("r5", False), ("r6", True)):
            self.common(language, "r0", word, is_there)

    def test_places_that_are_not_strict(self):
        language = wide(["(lazy $a (f 1 $b))"], ["(lazy $a (f $b (f 2 2)))"], ["(lazy $a (p $b))"], ["(none (none $x))"], ["(none (none 3))"])
        self.assertEqual(self.common(language, "r0", "r1")[2][1], node("f", num(1), node("f", num(2), num(2))))
        self.common(language, "r0", "r2", False)
        self.common(language, "r3", "r4")

    def test_names_addresses_and_maps(self):
        language = wide(["(f $a $b)", "(name $a)", "(not (equal $a 'a))", "(has $b $a)"], ["(f $a $b)", "(not (has $b 'b))", "(not (equal $a 'c))"],
                        ["(f $a $b)", "(address $a)", "(equal $a $b)"], ["(f @7 $b)"], ["(f $a $b)", "(not (equal $b @7))"],
                        ["(f $a $b)", "(equal $a 'a)"])
        self.common(language, "r0", "r1")
        self.assertEqual(self.common(language, "r2", "r3"), node("f", addr(7), addr(7)))
        self.common(language, "r2", "r4")
        self.common(language, "r0", "r5", False)

    def test_it_never_raises_too_many_cases(self):
        language = wide(*[["(f $a $b)"] + [f"(not (equal $a {n * 8 + k}))" for k in range(8)] for n in range(40)])
        self.common(language, "r0", "r39")

    def test_no_such_rule(self):
        language = wide(["(f $a $b)"])
        for one, other in (("r0", "q"), ("q", "r0"), ("f", "r0")):
            self.assertRaises(KeyError, common_redex, language, one, other)


class ComesFirst(Coverage):
    """E2: first_redex"""

    def test_the_first_rule(self):
        language = wide(["(f $a $b)", "(less $a $b)"], ["(turn $a $b)"])
        self.first(language, "r0")
        self.first(language, "r1")

    def test_a_rule_that_never_comes_first(self):
        language = wide(["(f $a $b)", "(less $a $b)"], ["(f $a $b)", "(not (less $a $b))"], ["(f $a $b)"], ["(f 1 $b)"], ["(turn $a $b)"])
        self.first(language, "r1")
        for word in ("r2", "r3"):
            self.first(language, word, False)
        self.first(language, "r4")

    def test_a_rule_that_applies_nowhere(self):
        language = wide(["(f $a $b)", "(less $a $a)"], ["(f $a $b)"])
        self.first(language, "r0", False)
        self.first(language, "r1")

    def test_behind_several_others(self):
        sorts = ["(f $a $b)"]
        language = wide(sorts + ["(integer $a)"], sorts + ["(name $a)"], sorts + ["(address $a)"], sorts + ["(map $a)"], ["(f (p $a) $b)"], ["(f (box $a) $b)"],
                        ["(f end $b)", "(integer $b)"], ["(f end end)"], ["(f $a $b)"], ["(f end $b)"])
        found = self.first(language, "r8")
        self.assertEqual(found[2][0], node("end"))
        self.first(language, "r9", False)

    def test_gaps_between_integers(self):
        gaps = [["(f $a $b)", f"(equal $a {n})"] for n in range(10) if n != 6]
        ends = [["(f $a $b)", "(less $a 0)"], ["(f $a $b)", "(less 9 $a)"], ["(f $a $b)", "(not (integer $a))"]]
        language = wide(*gaps, *ends, ["(f $a $b)", "(integer $a)"], ["(f $a $b)"])
        self.assertEqual(self.first(language, "r12")[2][0], num(6))
        self.first(language, "r13", False)

    def test_names_that_no_earlier_rule_has(self):
        language = wide(["(f $a $b)", "(has $b 'a)"], ["(f 'a $b)"], ["(f 'b $b)", "(not (has $b 'b))"], ["(f $a $b)", "(has $b $a)", "(has $b 'b)"], ["(f $a $b)"])
        self.first(language, "r3")
        self.first(language, "r4")

    def test_rules_behind_it_do_not_matter(self):
        language = wide(["(f $a $b)", "(less $a $b)"], ["(f $a $b)"], ["(f $a $b)", "(less $a $b)"])
        self.first(language, "r0")

    def test_no_such_rule(self):
        self.assertRaises(KeyError, first_redex, wide(["(f $a $b)"]), "f")


class Stuck(Coverage):
    """E1 and E2: stuck_redex"""

    def test_all_are_covered(self):
        language = wide(["(f $a $b)"], ["(turn $a $b)", "(less $a $b)"], ["(turn $a $b)", "(not (less $a $b))"], ["(none $x)"])
        for word in ("f", "turn", "none"):
            self.stuck(language, word, False)
        self.stuck(language, "lazy")

    def test_without_rules(self):
        language = wide()
        for word in ("f", "lazy", "none", "turn"):
            self.stuck(language, word)

    def test_shapes(self):
        sorts = ["(f $a $b)"]
        all_sorts = [sorts + [f"({sort} $a)"] for sort in ("integer", "name", "address", "map")]
        self.assertEqual(self.stuck(wide(*all_sorts), "f")[2][0][0], "node")
        nodes = [["(f (p $a) $b)"], ["(f (box $a) $b)"], ["(f end $b)"]]
        self.stuck(wide(*all_sorts, *nodes), "f", False)
        for missing in range(7):
            language = wide(*[rule for n, rule in enumerate(all_sorts + nodes) if n != missing])
            self.stuck(language, "f")

    def test_a_language_without_values(self):
        language = read_language(BARE, rules_of(*[["(f $a $b)", f"({sort} $a)"] for sort in ("integer", "name", "address", "map")]))
        self.stuck(language, "f", False)
        language = read_language(BARE, rules_of(*[["(f $a $b)", f"({sort} $a)"] for sort in ("integer", "name", "map")]))
        self.stuck(language, "f")
        language = read_language(BARE, rules_of(["(lazy 0 (f $a $b))"], ["(lazy $a $b)", "(not (equal $a 0))"]))
        self.assertNotEqual(self.stuck(language, "lazy")[2][1][1], "f")

    def test_within_nodes(self):
        language = wide(["(f (p (p $a)) $b)"], ["(f (p $a) $b)", "(integer $a)"], ["(f $a $b)", "(integer $a)"], ["(f $a $b)", "(name $a)"],
                        ["(f $a $b)", "(address $a)"], ["(f $a $b)", "(map $a)"], ["(f (box $a) $b)"], ["(f end $b)"])
        found = self.stuck(language, "f")[2][0]
        self.assertEqual(found[1], "p")

    def test_places_that_are_not_strict(self):
        language = wide(["(none 1)"], ["(none (f $a $b))"], ["(none (none $x))"])
        self.stuck(language, "none")
        language = wide(["(lazy $a (box $b))"], ["(lazy $a $b)", "(not (map $a))"], ["(lazy $a 5)"])
        found = self.stuck(language, "lazy")
        self.assertEqual(found[2][0][0], "map")

    def test_integers_of_many_digits(self):
        much = "9" * 15
        conditions = [f"(less $a (plus $b {much}))", f"(less $b {much})", f"(less $b -{much})"]
        language = wide(["(f $a $b)", conditions[0]], ["(f $a $b)", conditions[1]], ["(f $a $b)", "(not (integer $a))"], ["(f $a $b)", "(not (integer $b))"])
        found = self.stuck(language, "f")
        self.assertGreaterEqual(found[2][0][1], 2 * (10 ** 15 - 1))

    def test_integers_and_equal_addresses(self):
        language = wide(["(f $a $b)", "(not (equal $a $b))"], ["(f $a $b)", "(integer $a)"], ["(f $a $b)", "(name $a)"], ["(f @3 $b)"])
        found = self.stuck(language, "f")
        self.assertEqual((found[2][0][0], found[2][0]), ("addr", found[2][1]))

    def test_no_such_constructor(self):
        self.assertRaises(KeyError, stuck_redex, wide(["(f $a $b)"]), "r0")


class ManyCases(Coverage):
    """E4"""

    def ten(self, least):
        """A rule with two parts and eight conditions: it fails in ten ways."""
        return ["(turn (p $a) (p $b))"] + [f"(less {least + n} $a)" for n in range(7)] + ["(less $a $b)"]

    def test_too_many_cases_is_an_error_of_the_package(self):
        self.assertTrue(issubclass(TooManyCases, PassError))

    def test_just_at_the_bound(self):
        ten = [self.ten(n) for n in range(4)]
        language = wide(*ten, ["(turn 5 5)"], ["(turn $a $b)"])
        self.first(language, "r5")
        self.stuck(language, "turn", False)
        self.stuck(wide(*ten), "turn")
        # What is left is covered by rules with one condition each, which do not count.
        rest = [["(turn $a $b)", "(not (integer $a))"], ["(turn $a $b)", "(integer $a)"], ["(turn $a $b)", "(name $b)"]]
        language = wide(*ten, *rest)
        self.stuck(language, "turn", False)
        self.first(language, "r4")

    def test_many_rules_that_fail_in_one_way(self):
        language = wide(*[["(f $a $b)", f"(equal $a {n})"] for n in range(59)], ["(f $a $b)", "(less 20 $a)"])
        self.stuck(language, "f")
        self.assertGreater(self.first(language, "r59")[2][0][1], 58)

    def test_above_the_bound_the_answer_is_right_or_missing(self):
        for more in ([], [["(turn $a $b)"]]):
            language = wide(*[self.ten(n) for n in range(8)], *more)
            try:
                self.stuck(language, "turn", not more)
            except TooManyCases:
                pass

    def test_thirteen_rules_of_two_conditions(self):
        dice = random.Random(5)
        for _ in range(5):
            rules = [["(f $a $b)"] for _ in range(13)]
            for rule in rules:
                rule += [f"(less (plus $a {dice.randint(1, 9)}) $b)", f"(less $a {dice.randint(0, 9)})"]
            self.stuck(wide(*rules), "f")


class Drawn(Coverage):
    """E3: languages drawn by lot, against many redexes"""

    LEAVES = [num(-1), num(0), num(1), num(4), name("a"), name("b"), name("x"), addr(0), addr(1), ("map", ()),
              mapping(a=num(0)), mapping(b=num(0), x=num(1))]

    def drawn_pattern(self, dice, constructors, depth, is_strict, words):
        pick = dice.random()
        if pick < 0.5 or depth == 0:
            words.append(f"x{len(words)}")
            return meta(words[-1])
        leaves = [num(0), num(1), name("a"), addr(0)]
        fitting = [row for row in constructors if row[2] == "value" or not is_strict]
        if pick < 0.7 or not fitting:
            return dice.choice(leaves)
        return self.drawn_node(dice, constructors, dice.choice(fitting), depth - 1, is_strict, words)

    def drawn_node(self, dice, constructors, row, depth, is_strict, words):
        return node(row[0], *[self.drawn_pattern(dice, constructors, depth, is_strict and place in row[3], words)
                              for place in range(row[1])])

    def drawn_rule(self, dice, constructors, number):
        plain = [row for row in constructors if row[2] == "plain"]
        pattern = self.drawn_node(dice, constructors, dice.choice(plain), 2, True, [])
        strict = {row[0]: row[3] for row in constructors}
        sure = []
        waiting = [pattern]
        while waiting:
            part = waiting.pop()
            for place in strict[part[1]]:
                inner = part[2][place]
                sure += [inner[1]] if inner[0] == "meta" else []
                waiting += [inner] if inner[0] == "node" else []
        conditions = [naive.drawn_condition(dice, sure) for _ in range(dice.randint(0, 2))] if sure else []
        return (f"r{number}", pattern, conditions, None, num(0))

    def redexes(self, language, constructor):
        rows = language.constructors
        nodes = [node(row[0], *parts) for row in rows for parts in itertools.product(self.LEAVES[1:7], repeat=row[1])]
        parts = self.LEAVES + nodes[::7]
        terms = [node(constructor, *chosen) for chosen in itertools.product(parts, repeat=language.constructor(constructor)[1])]
        return [term for term in terms if is_redex(language, term)]

    def test_against_many_redexes(self):
        dice = random.Random(11)
        for constructors in (WIDE, BARE):
            plain = [row[0] for row in constructors if row[2] == "plain"]
            redexes = {word: self.redexes(Language(constructors, []), word) for word in plain}
            for _ in range(60):
                language = Language(constructors, [self.drawn_rule(dice, constructors, n) for n in range(dice.randint(1, 4))])
                self.compare(language, {word: dice.sample(redexes[word], min(len(redexes[word]), 200)) for word in plain})

    def compare(self, language, redexes):
        for word, terms in redexes.items():
            is_stuck = any(first_rule(language, term) is None for term in terms)
            self.stuck(language, word, is_stuck or stuck_redex(language, word) is not None)
        for rule in language.rules:
            terms = redexes[rule[1][1]]
            firsts = [first_rule(language, term) for term in terms]
            is_first = any(found is not None and found[0] == rule for found in firsts)
            self.first(language, rule[0], is_first or first_redex(language, rule[0]) is not None)
            for other in language.rules:
                is_common = rule[1][1] == other[1][1] and any(applied(rule, term) and applied(other, term) for term in terms)
                self.common(language, rule[0], other[0], bool(is_common) or common_redex(language, rule[0], other[0]) is not None)

    def test_the_language_stays(self):
        language = read_language(CONSTRUCTORS, EXAMPLE)
        before = (language.constructors, language.rules)
        answers = [(common_redex(language, "less", "three"), first_redex(language, "rest"), stuck_redex(language, "cmp")) for _ in range(2)]
        self.assertEqual(answers[0], answers[1])
        self.assertEqual((language.constructors, language.rules), before)


if __name__ == "__main__":
    unittest.main()
