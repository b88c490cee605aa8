"""passproven.passes: the promises G1 to G5."""

import unittest

from building import addr, chain, mapping, meta, name, node, num, rows_of, wide
from drawing import Drawing
from passproven.errors import PassError, TooLarge
from passproven.languages import read_language
from passproven.passes import BadPass, check_pass, compose, translate, translated_state
from passproven.terms import height, size

SOURCE = read_language([("two", 2, "plain", [0]), ("one", 1, "value", [0]), ("nil", 0, "value", [])], [])
TARGET = read_language([("pair", 2, "plain", [0, 1]), ("box", 1, "value", [0]), ("end", 0, "value", []), ("join", 2, "value", [])], [])

TWO = ("two", ("a", "b"), node("pair", meta("b"), node("box", meta("a"))))
ONE = ("one", ("x",), node("join", meta("x"), num(5)))
NIL = ("nil", (), node("end"))
ROWS = (TWO, ONE, NIL)


class Passes(unittest.TestCase):
    """G1"""

    def test_a_pass(self):
        self.assertEqual(check_pass(SOURCE, TARGET, ROWS), ROWS)

    def test_lists(self):
        listed = [("two", ["a", "b"], TWO[2]), ("one", ["x"], ONE[2]), ("nil", [], NIL[2])]
        copied = [(word, list(parameters), template) for word, parameters, template in listed]
        found = check_pass(SOURCE, TARGET, listed)
        self.assertEqual(found, ROWS)
        self.assertEqual(listed, copied)
        listed[0][1].append("c")
        listed.clear()
        self.assertEqual(found, ROWS)
        self.assertEqual(check_pass(SOURCE, TARGET, copied), found)

    def test_templates(self):
        for template in (node("box", node("box", meta("x"))), node("join", name("a"), node("pair", meta("x"), addr(3))),
                         node("pair", node("end"), meta("x")), chain(200, meta("x"), "box")):
            rows = (TWO, ("one", ("x",), template), NIL)
            self.assertEqual(check_pass(SOURCE, TARGET, rows), rows)
        deep = node("pair", chain(11, meta("b"), "box"), node("join", chain(10, meta("a"), "box"), num(1)))
        self.assertEqual(check_pass(SOURCE, TARGET, (("two", ("a", "b"), deep), ONE, NIL))[0][2], deep)
        self.assertEqual(check_pass(SOURCE, TARGET, (TWO, ONE, ("nil", (), node("box", num(1)))))[2][2], node("box", num(1)))

    def test_the_order_of_the_parameters_is_free(self):
        rows = (("two", ("b", "a"), TWO[2]), ONE, NIL)
        self.assertEqual(check_pass(SOURCE, TARGET, rows), rows)


class BadPasses(unittest.TestCase):
    """G2"""

    def rejects(self, number, reason, rows):
        with self.assertRaises(BadPass) as caught:
            check_pass(SOURCE, TARGET, rows)
        self.assertEqual((caught.exception.number, caught.exception.reason), (number, reason))

    def two(self, reason, parameters, template):
        self.rejects(0, reason, (("two", parameters, template), ONE, NIL))

    def one(self, reason, parameters, template):
        self.rejects(1, reason, [TWO, ("one", parameters, template), NIL])

    def test_it_is_an_error_of_the_package(self):
        self.assertEqual(BadPass.__bases__, (PassError,))

    def test_length(self):
        wrong = ("six", ("A",), meta("q"))
        for rows in ((), (TWO, ONE), (TWO, ONE, NIL, NIL), [wrong, wrong]):
            self.rejects(None, "length", rows)

    def test_name(self):
        self.rejects(0, "name", (ONE, TWO, NIL))
        self.rejects(1, "name", (TWO, ("box",) + ONE[1:], NIL))
        self.rejects(2, "name", (TWO, ONE, ONE))
        self.rejects(2, "name", (TWO, ONE, ("five", ("q",), meta("z"))))

    def test_parameters(self):
        template = TWO[2]
        for parameters in ((), ("a",), ("a", "b", "c"), ("a", "a"), ("a", "a", "b"), ("a", "b", "b"), ("a", "B"), ("a", ""), ("a", "1b"), ["a", "abcdefghijklm"], ("a", 1), ["_a", "b"]):
            self.two("parameters", parameters, template)
        self.rejects(2, "parameters", (TWO, ONE, ("nil", ("a",), node("end"))))

    def test_signature(self):
        for template in (node("none", meta("x")), node("pair", meta("x")), node("box", meta("x"), num(1)), node("join", meta("x"), node("two", num(1), num(2))),
                         node("end", meta("x")), node("box", node("pair", meta("x"))), node("join", mapping(a=node("nil")), meta("x"))):
            self.one("signature", ("x",), template)

    def test_map(self):
        for template in (mapping(), node("join", mapping(), meta("x")), node("join", mapping(a=meta("x")), num(1)), node("box", node("join", meta("x"), mapping(b=num(1))))):
            self.one("map", ("x",), template)

    def test_once(self):
        for template in (node("end"), node("pair", meta("x"), meta("x")), node("pair", meta("x"), meta("y")), node("box", meta("y")), meta("y"), num(1),
                         node("box", node("join", meta("x"), node("box", meta("x"))))):
            self.one("once", ("x",), template)
        self.two("once", ("a", "b"), node("box", meta("a")))
        self.two("once", ("a", "b"), node("pair", meta("a"), node("pair", meta("a"), meta("b"))))
        self.rejects(2, "once", (TWO, ONE, ("nil", (), node("box", meta("x")))))

    def test_node(self):
        self.one("node", ("x",), meta("x"))
        for template in (num(1), name("a"), addr(0)):
            self.rejects(2, "node", (TWO, ONE, ("nil", (), template)))

    def test_the_first_reason_counts(self):
        bad = node("pair", mapping(), meta("q"))
        self.rejects(0, "name", (("six", ("a", "a"), bad), ONE, NIL))
        self.two("parameters", ("a", "a"), node("none", mapping()))
        self.two("signature", ("a", "b"), node("none", mapping(), meta("q")))
        self.two("map", ("a", "b"), bad)
        self.two("once", ("a", "b"), num(1))
        self.two("once", ("a", "b"), meta("a"))

    def test_the_first_row_counts(self):
        self.rejects(0, "once", (("two", ("a", "b"), node("end")), ("six", (), num(1)), ("nil", (), num(1))))
        self.rejects(1, "signature", (TWO, ("one", ("x",), node("none")), ("six", (), num(1))))

    def test_the_same_question_again(self):
        rows = (TWO, ("one", ("x",), num(1)), NIL)
        for _ in range(2):
            self.rejects(1, "once", rows)


class Translations(unittest.TestCase):
    """G3 and G4"""

    def test_the_example(self):
        rows = (("two", ("a", "b"), ("node", "pair", (("meta", "b"), ("node", "box", (("meta", "a"),))))), ("nil", (), ("node", "end", ())))
        self.assertEqual(translate(rows, ("node", "two", (("int", 1), ("node", "nil", ())))),
                         ("node", "pair", (("node", "end", ()), ("node", "box", (("int", 1),)))))

    def test_leaves_stay(self):
        for term in (num(5), num(-10 ** 30), name("a"), addr(7), meta("x"), meta("a")):
            self.assertEqual(translate(ROWS, term), term)

    def test_maps(self):
        self.assertEqual(translate(ROWS, mapping()), mapping())
        self.assertEqual(translate(ROWS, mapping(a=node("nil"), b=mapping(c=node("one", num(1))), d=num(2))),
                         mapping(a=node("end"), b=mapping(c=node("join", num(1), num(5))), d=num(2)))

    def test_nodes(self):
        self.assertEqual(translate(ROWS, node("nil")), node("end"))
        self.assertEqual(translate(ROWS, node("two", node("two", num(1), num(2)), node("one", mapping(a=node("nil"))))),
                         node("pair", node("join", mapping(a=node("end")), num(5)), node("box", node("pair", num(2), node("box", num(1))))))

    def test_metavariables_of_the_term_are_not_parameters(self):
        self.assertEqual(translate(ROWS, node("two", meta("b"), meta("a"))), node("pair", meta("a"), node("box", meta("b"))))
        self.assertEqual(translate(ROWS, node("two", node("one", meta("a")), node("one", meta("x")))),
                         node("pair", node("join", meta("x"), num(5)), node("box", node("join", meta("a"), num(5)))))

    def test_deep_templates(self):
        rows = (("two", ("a", "b"), chain(12, node("join", meta("b"), chain(30, meta("a"), "box")), "box")), ONE, NIL)
        self.assertEqual(translate(rows, node("two", num(1), num(2))), chain(12, node("join", num(2), chain(30, num(1), "box")), "box"))

    def test_parts(self):
        # The node of wide(n) has n + 2 parts, and its translation has one more.
        for many, is_large in ((3997, False), (3998, True)):
            term = node("one", wide(many))
            self.assertEqual(size(node("join", wide(many), num(5))), 4001 if is_large else 4000)
            if is_large:
                self.assertRaises(TooLarge, translate, ROWS, term)
            else:
                self.assertEqual(translate(ROWS, term), node("join", wide(many), num(5)))
        self.assertEqual(translate(ROWS, wide(3999)), wide(3999))
        self.assertRaises(TooLarge, translate, ROWS, wide(4000))

    def test_huge_translations(self):
        rows = (TWO, ("one", ("x",), chain(100, meta("x"), "box")), NIL)
        self.assertRaises(TooLarge, translate, rows, chain(60, num(0), "one"))

    def test_nesting(self):
        rows = (TWO, ("one", ("x",), chain(10, meta("x"), "box")), NIL)
        self.assertEqual(translate(rows, chain(20, num(0), "one")), chain(200, num(0), "box"))
        self.assertEqual(translate(rows, mapping(a=chain(19, num(0), "one"))), mapping(a=chain(190, num(0), "box")))
        self.assertEqual(height(translate(rows, chain(19, node("two", node("nil"), num(1)), "one"))), 192)
        self.assertRaises(TooLarge, translate, rows, mapping(a=chain(20, num(0), "one")))

    def test_states(self):
        state = (node("nil"), (node("one", num(1)), num(2)), (3, 4))
        self.assertEqual(translated_state(ROWS, state), (node("end"), (node("join", num(1), num(5)), num(2)), (3, 4)))


class Composed(unittest.TestCase):
    """G5"""

    def setUp(self):
        self.last = read_language([("cup", 1, "value", [0]), ("set_", 2, "plain", [0]), ("stop", 0, "value", [])], [])
        self.then = rows_of(TARGET, self.last, "pair x y: (set_ (cup $y) $x)", "box x: (cup (cup $x))", "end: stop", "join a b: (set_ $b $a)")

    def test_templates(self):
        first = check_pass(SOURCE, TARGET, ROWS)
        both = compose(first, self.then)
        self.assertEqual(both, (
            ("two", ("a", "b"), node("set_", node("cup", node("cup", node("cup", meta("a")))), meta("b"))),
            ("one", ("x",), node("set_", num(5), meta("x"))), ("nil", (), node("stop"))))
        self.assertEqual(check_pass(SOURCE, self.last, both), both)
        self.assertEqual(first, ROWS)
        self.assertEqual(compose(first, self.then), both)

    def test_lists(self):
        first, second = [("two", ["a", "b"], TWO[2]), ONE, NIL], [(word, list(words), template) for word, words, template in self.then]
        self.assertEqual(compose(first, second), compose(ROWS, self.then))

    def test_translating_twice(self):
        drawn = Drawing(5)
        for seed in range(20):
            source = drawn.language(1)
            middle, first = drawn.image(source)
            rows = [(f"c{n}", tuple("abcd"[:row[1]]), node(f"c{n}", *map(meta, "abcd"[:row[1]]))) for n, row in enumerate(middle.constructors)]
            target = read_language([(f"c{n}",) + row[1:] for n, row in enumerate(middle.constructors)], [])
            second = check_pass(middle, target, [(row[0],) + new[1:] for row, new in zip(middle.constructors, rows)])
            both = compose(first, second)
            self.assertEqual(check_pass(source, target, both), both)
            for _ in range(10):
                term = drawn.program(4)
                self.assertEqual(translate(both, term), translate(second, translate(first, term)))

    def grown(self, *levels):
        """A pass of a language to itself, each template with so many nodes."""
        language = read_language([(f"c{n}", 1, "value", [0]) for n in range(len(levels))], [])
        return language, check_pass(language, language, [(f"c{n}", ("x",), chain(many, meta("x"), "c0")) for n, many in enumerate(levels)])

    def test_parts(self):
        # A template of n nodes c0 gives one of n * 100 nodes, and the parameter is one part more.
        language, first = self.grown(*[1] * 40)
        _, second = self.grown(99, *[1] * 39)
        both = compose(first, second)
        self.assertEqual(sum(size(row[2]) for row in both), 4000)
        self.assertEqual(check_pass(language, language, both), both)
        rows = first[:-1] + (("c39", ("x",), node("c0", node("c1", meta("x")))),)
        self.assertRaises(TooLarge, compose, rows, second)
        other = second[:-1] + (("c39", ("x",), chain(100, meta("x"), "c0")),)
        self.assertEqual(sum(size(row[2]) for row in compose(first, other)), 4000)
        self.assertRaises(TooLarge, compose, first[:-1] + (("c39", ("x",), node("c39", meta("x"))),), other)

    def test_one_template_of_many_parts(self):
        wide_ones = read_language([("w", 6, "value", []), ("v", 1, "value", [])], [])
        six = node("w", meta("x"), num(1), num(2), num(3), num(4), num(5))
        first = check_pass(wide_ones, wide_ones, [("w", tuple("abcdef"), node("w", *map(meta, "abcdef"))), ("v", ("x",), chain(0, six))])
        self.assertEqual(size(compose(first, first)[1][2]), 7)
        self.assertRaises(TooLarge, compose, (first[0], ("v", ("x",), chain(666, meta("x"), "v"))), first)

    def test_nesting(self):
        language, first = self.grown(10)
        _, second = self.grown(20)
        both = compose(first, second)
        self.assertEqual(height(both[0][2]), 200)
        self.assertEqual(check_pass(language, language, both), both)
        _, first = self.grown(3)
        _, second = self.grown(67)
        self.assertRaises(TooLarge, compose, first, second)


if __name__ == "__main__":
    unittest.main()
