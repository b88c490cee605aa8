"""passproven.faults: the promises G6 to G8."""

import itertools
import unittest

from building import chain, meta, node, num, rows_of, same_rows
from drawing import Drawing
from passproven.constructors import is_value
from passproven.faults import faults
from passproven.instances import Extension
from passproven.languages import read_language
from passproven.passes import translate
from passproven.stepping import redex

VALUE = node("#v")
PLAIN = node("?p")
CONSTANTS = (("#v", 0, "value", ()), ("?p", 0, "plain", ()))


def language(*constructors):
    return read_language(constructors, [])


TARGET = language(("add", 2, "plain", [0, 1]), ("back", 2, "plain", [1, 0]), ("pair", 2, "value", [0, 1]), ("swap", 2, "value", [1, 0]),
                  ("lazy", 2, "value", []), ("left", 2, "value", [0]), ("seq", 2, "plain", [1]), ("s", 1, "value", [0]), ("go", 1, "plain", [0]),
                  ("run", 0, "plain", []), ("end", 0, "value", []), ("six", 6, "plain", [4, 0, 5, 2]))


class Faults(unittest.TestCase):
    def check(self, kind, strict, text, expected, parameters="a b c d e f"):
        """Looks at a constructor c with strict places and the template of a row that is given as a text."""
        words = parameters.split()
        many = len([word for word in words if f"${word}" in text])
        source = language(("c", many, kind, strict))
        rows = rows_of(source, TARGET, f"c {' '.join(words[:many])}: {text}")
        self.assertEqual(faults(source, TARGET, rows), expected)
        return source, rows

    def place(self, strict, text, *places):
        self.check("plain", strict, text, [("place", "c", place) for place in places])

    def value(self, strict, text, *places, is_fault):
        self.check("value", strict, text, [("place", "c", place) for place in places] + [("value", "c")] * is_fault)

    def test_the_example(self):
        source = language(("add", 2, "plain", [0, 1]))
        target = language(("add", 2, "plain", [0, 1]))
        rows = (("add", ("a", "b"), ("node", "add", (("meta", "b"), ("meta", "a")))),)
        self.assertEqual(faults(source, target, rows), [("place", "add", 0)])
        self.assertEqual(faults(source, target, same_rows(source)), [])

    def test_places(self):
        self.place([0, 1], "(add $a $b)")
        self.place([1, 0], "(add $b $a)")
        self.place([1, 0], "(back $a $b)")
        self.place([0, 1], "(back $a $b)", 0)
        self.place([1, 0], "(add $a $b)", 1)
        self.place([0], "(add $a $b)")
        self.place([1], "(add $a $b)", 1)
        self.place([], "(add $a $b)")
        self.place([1, 0], "(seq $a $b)", 0)
        self.place([0], "(lazy $a $b)", 0)
        self.place([0, 1], "(lazy $a $b)", 0, 1)
        self.place([0, 1], "(left $a $b)", 1)

    def test_a_later_place_is_asked_with_the_earlier_ones_as_values(self):
        self.place([0, 1, 2], "(add (pair $b $a) $c)", 0)
        self.place([0, 1, 2], "(add (add $b $a) $c)", 0, 2)
        self.place([2, 0, 1], "(back (add $a $b) $c)")
        self.place([2, 1, 0], "(back (add $a $b) $c)", 1)
        self.place([0, 1, 2], "(add $c (add $b $a))", 0, 1)

    def test_strict_places_in_any_order(self):
        self.place([4, 0, 5, 2], "(six $a $b $c $d $e $f)")
        self.place([4, 0, 2, 5], "(six $a $b $c $d $e $f)", 2)
        self.place([5, 0, 4, 2], "(six $a $b $c $d $e $f)", 5, 0)
        self.place([4, 0, 5, 2, 1], "(six $a $b $c $d $e $f)", 1)
        self.place([4, 0], "(six $a $b $c $d $e $f)")
        for order in itertools.permutations(range(3)):
            for given in itertools.permutations(range(3)):
                stands = [[place for place in given if place not in order[:at]][0] for at in range(3)]
                wrong = [place for place, found in zip(order, stands) if found != place]
                words = ["abc"[place] for place in given]
                self.place(list(order), f"(add ${words[0]} (s (pair ${words[1]} ${words[2]})))", *wrong)

    def test_templates_that_wait_in_a_further_constructor(self):
        self.place([0, 1], "(go (go (add (s $a) (go $b))))")
        self.place([0, 1], "(go (seq (add $a $b) 1))", 0, 1)
        self.place([0], "(seq 5 (pair 'a (left $a (go $b))))")
        self.place([0, 1], "(add (go 1) (add $a $b))", 0, 1)
        self.place([0], "(pair end (go $a))")
        self.place([0], "(add (s (pair 1 'a)) $a)")

    def test_redexes_within_a_template(self):
        self.place([0], "(add run $a)", 0)
        self.place([0], "(back run $a)")
        self.place([0, 1], "(add $a (add run $b))", 1)
        self.place([0], "(pair (lazy run run) $a)")
        self.place([0], "(pair (left 1 run) $a)")
        self.place([0], "(pair (go 1) $a)", 0)

    def test_parameters_of_lazy_places(self):
        # They stand for terms that are not values, so that the value in which they are strict is none, either.
        self.place([0], "(add $a $b)")
        self.place([1], "(add (s $a) $b)", 1)
        self.place([1], "(add (lazy $a 1) $b)")
        self.place([0, 2], "(add $a (add $b $c))", 2)

    def test_values(self):
        self.value([0, 1], "(pair $a $b)", is_fault=False)
        self.value([0], "(pair $a $b)", is_fault=True)
        self.value([], "(lazy $a $b)", is_fault=False)
        self.value([0], "(left $a $b)", is_fault=False)
        self.value([], "end", is_fault=False)
        self.value([], "run", is_fault=True)
        self.value([0], "(go $a)", is_fault=True)
        self.value([0], "(s (s (left $a run)))", is_fault=False)
        self.value([0], "(s (pair (lazy run run) $a))", is_fault=False)
        self.value([0], "(pair $a (go 1))", is_fault=True)
        self.value([], "(s (lazy 1 (go $a)))", is_fault=False)
        self.value([], "(s $a)", is_fault=True)

    def test_several_in_one_constructor(self):
        self.value([0, 1], "(swap $a $b)", 0, is_fault=False)
        self.value([0, 1], "(add $b $a)", 0, is_fault=True)
        self.value([1, 0], "(lazy $a $b)", 1, 0, is_fault=False)
        self.value([1, 0], "(seq (s $a) (lazy $b 1))", 1, 0, is_fault=True)
        self.value([0, 1, 2], "(pair (swap $a $b) $c)", 0, is_fault=False)

    def test_values_that_plain_constructors_become(self):
        self.check("plain", [], "end", [])
        self.check("plain", [0], "(s $a)", [])

    def test_the_order(self):
        source = language(("b", 2, "value", [1, 0]), ("z", 1, "plain", [0]), ("a", 1, "value", [0]), ("m", 1, "plain", [0]))
        rows = rows_of(source, TARGET, "b x y: (seq (lazy $y 1) (lazy 1 $x))", "z x: (go (lazy $x 1))", "a x: (go $x)", "m x: (s $x)")
        expected = [("place", "b", 1), ("place", "b", 0), ("value", "b"), ("place", "z", 0), ("value", "a")]
        self.assertEqual(faults(source, TARGET, rows), expected)
        found = faults(source, TARGET, rows)
        found.clear()
        self.assertEqual(faults(source, TARGET, rows), expected)
        self.assertEqual(faults(source, TARGET, [(word, list(words), template) for word, words, template in rows]), expected)

    def test_words_of_parameters(self):
        self.check("plain", [0, 1], "(add $n $m)", [], "n m")
        self.check("plain", [0, 1], "(add $u1 $u0)", [], "u1 u0")
        self.check("plain", [0, 1], "(add $u0 $u1)", [("place", "c", 0)], "u1 u0")

    def test_deep_templates(self):
        source = language(("c", 1, "value", [0]))
        for constructor, expected in (("s", []), ("go", [("value", "c")])):
            rows = (("c", ("x",), chain(199, node(constructor, meta("x")), "s")),)
            self.assertEqual(faults(source, TARGET, rows), expected)

    def test_what_evaluation_really_does(self):
        drawn = Drawing(11)
        wide = Extension(TARGET, CONSTANTS)
        rows = [row for row in TARGET.constructors if row[1]]
        for _ in range(400):
            words = list("abc")
            template = self.drawn(drawn, rows, 3, words)
            used = [word for word in "abc" if word not in words]
            strict = drawn.dice.sample(range(len(used)), drawn.dice.randint(0, len(used)))
            kind = drawn.pick(("value", "plain"))
            source = language(("c", len(used), kind, strict))
            self.assertEqual(faults(source, TARGET, (("c", tuple(used), template),)), self.expected(wide, kind, strict, template, used))

    def drawn(self, drawn, rows, depth, words):
        if words and drawn.chance(0.4) and depth < 3:
            return meta(words.pop(0))
        if depth == 0:
            return num(1)
        row = drawn.pick(rows)
        return node(row[0], *[self.drawn(drawn, rows, depth - 1, words) for _ in range(row[1])])

    def expected(self, wide, kind, strict, template, used):
        """The faults, by the redex of part C where parameters stand for constants."""
        found = []
        for at, place in enumerate(strict):
            standing = dict.fromkeys(used, PLAIN)
            standing.update({used[earlier]: VALUE for earlier in strict[:at]})
            marked = {**standing, used[place]: node("?here")}
            there = redex(Extension(wide, (("?here", 0, "plain", ()),)), self.filled(template, marked))
            if there is None or there[1] != node("?here"):
                found.append(("place", "c", place))
        values = {word: VALUE if at in strict else PLAIN for at, word in enumerate(used)}
        if kind == "value" and not is_value(wide, self.filled(template, values)):
            found.append(("value", "c"))
        return found

    def filled(self, template, bindings):
        rows = (("t", tuple(bindings), template), ("#v", (), VALUE), ("?p", (), PLAIN), ("?here", (), node("?here")))
        return translate(rows, node("t", *bindings.values()))


if __name__ == "__main__":
    unittest.main()
