"""passproven.matching: the promises A7 and A8, and fill."""

import itertools
import unittest

from building import addr, chain, mapping, meta, name, node, num, wide
from passproven.errors import TooLarge
from passproven.matching import common, fill, match
from passproven.terms import height, is_pattern, size


class Match(unittest.TestCase):
    """A7"""

    def test_metavariable_matches_everything(self):
        for term in (num(1), name("a"), addr(2), mapping(a=num(1)), ("map", ()), node("z"), chain(200)):
            self.assertEqual(match(meta("x"), term), {"x": term})

    def test_leaves(self):
        for term in (num(1), name("a"), addr(1), node("z")):
            self.assertEqual(match(term, term), {})
            for other in (num(2), num(-1), name("b"), addr(2), node("y"), ("map", ()), node("s", num(1))):
                self.assertIsNone(match(term, other))
        self.assertIsNone(match(num(1), addr(1)))
        self.assertIsNone(match(addr(1), num(1)))
        self.assertIsNone(match(name("z"), node("z")))
        self.assertIsNone(match(node("z"), name("z")))
        self.assertIsNone(match(node("z"), mapping(z=num(1))))

    def test_nodes(self):
        pattern = node("p", node("s", meta("x")), meta("y"))
        self.assertEqual(match(pattern, node("p", node("s", num(1)), mapping(a=num(2)))), {"x": num(1), "y": mapping(a=num(2))})
        self.assertIsNone(match(pattern, node("p", num(1), num(2))))
        self.assertIsNone(match(pattern, node("q", node("s", num(1)), num(2))))
        self.assertIsNone(match(pattern, node("p", node("t", num(1)), num(2))))
        self.assertIsNone(match(pattern, node("s", num(1))))
        self.assertIsNone(match(pattern, num(1)))

    def test_late_mismatch(self):
        pattern = node("p", meta("x"), node("s", num(1)))
        self.assertIsNone(match(pattern, node("p", num(5), node("s", num(2)))))
        self.assertEqual(match(pattern, node("p", num(5), node("s", num(1)))), {"x": num(5)})

    def test_order_of_the_words(self):
        pattern = node("t", node("p", meta("c"), meta("a")), meta("d"), node("s", meta("b")))
        term = node("t", node("p", num(1), num(2)), num(3), node("s", num(4)))
        self.assertEqual(list(match(pattern, term).items()), [("c", num(1)), ("a", num(2)), ("d", num(3)), ("b", num(4))])

    def test_high_patterns(self):
        self.assertEqual(match(chain(200, meta("x")), chain(200, num(7))), {"x": num(7)})
        self.assertIsNone(match(chain(200, num(6)), chain(200, num(7))))

    def test_filling_gives_the_term_back(self):
        pattern = node("t", meta("x"), node("p", meta("y"), num(1)), meta("z"))
        bindings = {"x": num(1), "y": node("p", num(2), num(3)), "z": mapping(a=num(1))}
        self.assertEqual(match(pattern, fill(pattern, bindings)), bindings)

    def test_answer_may_be_changed(self):
        pattern, term = node("s", meta("x")), node("s", num(1))
        match(pattern, term)["y"] = num(2)
        self.assertEqual(match(pattern, term), {"x": num(1)})


class Fill(unittest.TestCase):
    def test_metavariables(self):
        self.assertEqual(fill(meta("x"), {"x": num(1)}), num(1))
        self.assertEqual(fill(meta("x"), {"y": num(1)}), meta("x"))
        self.assertEqual(fill(meta("x"), {}), meta("x"))

    def test_each_place_is_filled(self):
        term = node("t", meta("x"), node("p", meta("x"), meta("y")), mapping(a=meta("y"), b=name("x")))
        self.assertEqual(
            fill(term, {"x": num(1), "y": node("z")}),
            node("t", num(1), node("p", num(1), node("z")), mapping(a=node("z"), b=name("x"))),
        )

    def test_order_of_the_parts(self):
        term = node("t", meta("a"), node("p", meta("b"), node("s", meta("c"))), meta("d"))
        filled = fill(term, {"a": num(1), "b": num(2), "c": num(3), "d": num(4)})
        self.assertEqual(filled, node("t", num(1), node("p", num(2), node("s", num(3))), num(4)))

    def test_terms_that_are_put_in_are_not_filled_again(self):
        self.assertEqual(fill(node("p", meta("x"), meta("y")), {"x": meta("y"), "y": meta("x")}), node("p", meta("y"), meta("x")))
        self.assertEqual(fill(meta("x"), {"x": node("s", meta("x"))}), node("s", meta("x")))

    def test_forms(self):
        term = ("set", meta("m"), name("k"), ("plus", meta("x"), ("minus", num(1), ("get", meta("m"), meta("k")))))
        self.assertEqual(
            fill(term, {"x": num(5), "k": name("k"), "m": mapping(k=num(1))}),
            ("set", mapping(k=num(1)), name("k"), ("plus", num(5), ("minus", num(1), ("get", mapping(k=num(1)), name("k"))))),
        )
        self.assertEqual(fill(node("s", meta("x")), {"x": ("plus", num(1), meta("x"))}), node("s", ("plus", num(1), meta("x"))))

    def test_most(self):
        term = node("p", meta("x"), meta("x"))
        self.assertEqual(size(fill(term, {"x": chain(2)}, most=7)), 7)
        self.assertRaises(TooLarge, fill, term, {"x": chain(2)}, most=6)
        self.assertEqual(fill(num(1), {}, most=1), num(1))
        self.assertRaises(TooLarge, fill, node("s", num(1)), {}, most=1)
        self.assertRaises(TooLarge, fill, meta("x"), {"x": mapping(a=num(1), b=num(2))}, most=2)
        self.assertRaises(TooLarge, fill, ("plus", num(1), num(2)), {}, most=2)

    def test_most_without_an_argument(self):
        self.assertEqual(size(fill(meta("x"), {"x": wide(3999)})), 4000)
        self.assertRaises(TooLarge, fill, meta("x"), {"x": wide(4000)})
        self.assertEqual(size(fill(node("s", meta("x")), {"x": wide(3998)})), 4000)
        self.assertRaises(TooLarge, fill, node("s", meta("x")), {"x": wide(3999)})
        twice = node("p", meta("x"), meta("x"))
        self.assertEqual(size(fill(twice, {"x": wide(1998)})), 3999)
        self.assertRaises(TooLarge, fill, twice, {"x": wide(1999), "y": num(1)})

    def test_more_than_the_usual_number(self):
        twice = node("p", meta("x"), meta("x"))
        self.assertEqual(size(fill(twice, {"x": wide(1999)}, most=4001)), 4001)
        self.assertRaises(TooLarge, fill, twice, {"x": wide(1999)}, most=4000)
        self.assertEqual(size(fill(twice, {"x": wide(3999)}, most=100000)), 8001)

    def test_unused_words_do_not_count(self):
        self.assertEqual(fill(meta("x"), {"x": num(1), "y": wide(5000)}, most=1), num(1))

    def test_height(self):
        self.assertEqual(fill(node("s", meta("x")), {"x": chain(199)}), chain(200))
        self.assertRaises(TooLarge, fill, node("s", meta("x")), {"x": chain(200)})
        self.assertEqual(height(fill(chain(120, meta("x")), {"x": chain(80)})), 200)
        self.assertRaises(TooLarge, fill, chain(120, meta("x")), {"x": chain(81)})
        self.assertEqual(fill(meta("x"), {"x": chain(200)}), chain(200))
        self.assertRaises(TooLarge, fill, mapping(a=num(1), b=meta("x")), {"x": chain(200)})
        self.assertRaises(TooLarge, fill, ("plus", meta("x"), num(1)), {"x": chain(200)})
        self.assertRaises(TooLarge, fill, node("s", meta("x")), {"x": chain(200)}, most=100000)

    def test_arguments_stay(self):
        term, bindings = node("p", meta("x"), meta("y")), {"x": num(1), "z": num(2)}
        fill(term, bindings)
        self.assertEqual(bindings, {"x": num(1), "z": num(2)})
        self.assertEqual(term, node("p", meta("x"), meta("y")))


class Common(unittest.TestCase):
    """A8"""

    def test_metavariables(self):
        self.assertEqual(common(meta("x"), meta("x")), meta("v0"))
        self.assertEqual(common(meta("x"), num(1)), num(1))
        self.assertEqual(common(num(1), meta("x")), num(1))
        self.assertEqual(common(meta("x"), node("p", meta("b"), meta("a"))), node("p", meta("v0"), meta("v1")))
        self.assertEqual(common(node("p", meta("b"), meta("a")), meta("b")), node("p", meta("v0"), meta("v1")))

    def test_leaves(self):
        leaves = (num(1), num(2), name("a"), name("b"), addr(1), addr(2), node("y"), node("z"))
        for one, other in itertools.product(leaves, leaves):
            self.assertEqual(common(one, other), one if one == other else None)
        self.assertIsNone(common(node("s", num(1)), num(1)))
        self.assertIsNone(common(num(1), node("s", num(1))))

    def test_nodes(self):
        self.assertEqual(
            common(node("p", meta("x"), node("s", meta("y"))), node("p", node("s", num(1)), meta("x"))),
            node("p", node("s", num(1)), node("s", meta("v0"))),
        )
        self.assertIsNone(common(node("p", meta("x"), num(1)), node("p", num(1), num(2))))
        self.assertIsNone(common(node("s", meta("x")), node("t", meta("x"))))

    def test_same_words_are_different_metavariables(self):
        self.assertEqual(
            common(node("p", meta("x"), num(1)), node("p", node("s", meta("x")), meta("y"))),
            node("p", node("s", meta("v0")), num(1)),
        )

    def test_order_of_the_new_metavariables(self):
        one = node("t", meta("v2"), node("p", meta("v0"), meta("a")), node("s", meta("b")))
        other = node("t", node("p", meta("k"), meta("l")), meta("m"), meta("n"))
        self.assertEqual(
            common(one, other),
            node("t", node("p", meta("v0"), meta("v1")), node("p", meta("v2"), meta("v3")), node("s", meta("v4"))),
        )

    def test_many_metavariables(self):
        one = node("r", *[meta(f"x{n}") for n in range(8)])
        both = node("p", one, one)
        wanted = node("p", node("r", *[meta(f"v{n}") for n in range(8)]), node("r", *[meta(f"v{n}") for n in range(8, 16)]))
        self.assertEqual(common(node("p", meta("a"), meta("b")), both), wanted)

    def test_high_patterns(self):
        self.assertEqual(common(chain(200, meta("x")), chain(100, meta("y"))), chain(200, meta("v0")))
        self.assertEqual(common(chain(200, meta("x")), chain(200, num(1))), chain(200, num(1)))
        self.assertIsNone(common(chain(200, num(2)), chain(200, num(1))))

    def test_matches_exactly_what_both_match(self):
        leaves = [num(0), name("a"), addr(0), node("z")]
        terms = leaves + [node("s", each) for each in leaves]
        terms += [node("p", one, other) for one in terms for other in leaves + [mapping(a=num(0))]]
        terms += [node("s", each) for each in terms]
        flat = leaves + [meta("x"), meta("y")]
        ones = flat + [node("s", each) for each in flat]
        patterns = ones + [node("p", one, other) for one in ones for other in flat]
        patterns = [pattern for pattern in patterns if is_pattern(pattern)]
        for first, second in itertools.product(patterns, patterns):
            both = common(first, second)
            for term in terms:
                wanted = match(first, term) is not None and match(second, term) is not None
                self.assertEqual(both is not None and match(both, term) is not None, wanted)


if __name__ == "__main__":
    unittest.main()
