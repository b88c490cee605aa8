"""passproven.solving: the promises D1 to D6."""

import itertools
import unittest

import naive
from building import addr, mapping, meta, name, num
from passproven.conditions import holds
from passproven.solving import denied, follows, is_possible, solve

X, Y, Z = meta("x"), meta("y"), meta("z")
NODE = ("node",)
EMPTY = ("map", ())


def plus(word, number):
    return ("sum", word, number)


def no(condition):
    return ("not", condition)


def has(*words):
    return mapping(**{word: num(0) for word in words})


class Solving(unittest.TestCase):
    def check(self, conditions, solution, **more):
        """Asks twice, with a list and with a tuple, and expects the keys in the same order, too."""
        for asked in (list(conditions), tuple(conditions)):
            found = solve(asked, **more)
            self.assertEqual(found, solution)
            if solution is not None:
                self.assertEqual(list(found), list(solution))
        if not more:
            self.assertEqual(is_possible(conditions), solution is not None)


class Conditions(Solving):
    """D1 and D2"""

    def test_no_conditions(self):
        self.check([], {})
        self.check([], {}, order=["x"], no_nodes=["x"])

    def test_sorts(self):
        self.check([("integer", "x")], {"x": num(0)})
        self.check([("name", "x")], {"x": name("a")})
        self.check([("address", "x")], {"x": addr(0)})
        self.check([("map", "x")], {"x": EMPTY})
        for one, other in itertools.permutations(("integer", "name", "address", "map"), 2):
            self.check([(one, "x"), (other, "x")], None)
            self.check([(one, "x"), (other, "y")], {**solve([(one, "x")]), **solve([(other, "y")])})

    def test_negated_sorts(self):
        self.check([no(("integer", "x"))], {"x": name("a")})
        self.check([no(("name", "x"))], {"x": num(0)})
        self.check([no(("integer", "x")), no(("name", "x"))], {"x": addr(0)})
        self.check([no(("address", "x")), no(("integer", "x")), no(("name", "x"))], {"x": EMPTY})
        self.check([no((sort, "x")) for sort in ("map", "address", "integer", "name")], {"x": NODE})

    def test_equal(self):
        self.check([("equal", X, num(7))], {"x": num(7)})
        self.check([("equal", name("k"), X)], {"x": name("k")})
        self.check([("equal", X, addr(7))], {"x": addr(7)})
        self.check([("equal", X, plus("y", 7))], {"x": num(0), "y": num(-7)})
        self.check([("equal", X, Y)], {"x": num(0), "y": num(0)})
        self.check([("equal", X, Y), ("name", "y")], {"x": name("a"), "y": name("a")})
        self.check([("equal", X, X)], {"x": num(0)})
        self.check([("equal", X, plus("x", 1))], None)
        self.check([("equal", X, Y), ("map", "y")], None)
        self.check([("equal", X, X), no(("integer", "x")), no(("name", "x")), no(("address", "x"))], None)
        for one, other in itertools.combinations((num(1), num(2), name("a"), name("b"), addr(1), addr(2)), 2):
            self.check([("equal", one, other)], None)
            self.check([("equal", one, one)], {})
            self.check([("equal", X, one), ("equal", other, X)], None)

    def test_negated_equal(self):
        self.check([no(("equal", X, num(0)))], {"x": num(-1)})
        self.check([no(("equal", X, Y))], {"x": num(0), "y": num(1)})
        self.check([no(("equal", X, X))], {"x": EMPTY})
        self.check([no(("equal", X, X)), no(("map", "x"))], {"x": NODE})
        self.check([no(("equal", X, plus("x", 1)))], {"x": num(0)})
        self.check([no(("equal", X, name("a"))), ("name", "x")], {"x": name("b")})
        self.check([no(("equal", X, addr(0))), ("address", "x")], {"x": addr(1)})
        self.check([no(("equal", X, Y)), ("name", "x"), ("name", "y")], {"x": name("a"), "y": name("b")})
        self.check([no(("equal", X, Y)), ("name", "x"), ("address", "y")], {"x": name("a"), "y": addr(0)})
        self.check([no(("equal", num(1), num(1)))], None)
        self.check([no(("equal", num(1), name("a")))], {})
        self.check([no(("equal", X, Y)), ("equal", X, Z), ("equal", Z, Y)], None)

    def test_less(self):
        self.check([("less", X, num(7))], {"x": num(0)})
        self.check([("less", X, num(-7))], {"x": num(-8)})
        self.check([("less", num(7), X)], {"x": num(8)})
        self.check([("less", X, Y)], {"x": num(0), "y": num(1)})
        self.check([("less", plus("x", 3), plus("y", -2))], {"x": num(0), "y": num(6)})
        self.check([("less", X, X)], None)
        self.check([("less", X, plus("x", 1))], {"x": num(0)})
        self.check([("less", plus("x", 1), X)], None)
        self.check([("less", X, Y), ("less", Y, X)], None)
        self.check([("less", X, Y), ("less", Y, plus("x", 2))], {"x": num(0), "y": num(1)})
        self.check([("less", X, Y), ("less", Y, plus("x", 1))], None)
        for other in (name("a"), addr(1)):
            self.check([("less", X, other)], None)
            self.check([("less", other, num(1))], None)

    def test_negated_less(self):
        self.check([no(("less", X, num(7)))], {"x": num(7)})
        self.check([no(("less", X, num(7))), no(("integer", "x"))], {"x": name("a")})
        self.check([no(("less", X, Y)), ("integer", "x"), ("less", Y, num(9)), ("less", num(4), Y)], {"x": num(5), "y": num(5)})
        self.check([no(("less", X, X))], {"x": num(0)})
        self.check([no(("less", num(1), num(2)))], None)
        self.check([no(("less", num(2), num(1)))], {})
        self.check([no(("less", name("a"), num(2)))], {})

    def test_sums_of_other_things(self):
        self.check([no(("equal", plus("x", 1), plus("x", 1)))], {"x": name("a")})
        self.check([no(("equal", plus("x", 1), plus("x", 1))), no(("name", "x")), no(("address", "x"))], {"x": EMPTY})
        self.check([("equal", plus("x", 1), Y), ("name", "x")], None)
        self.check([no(("less", plus("x", 1), num(0))), ("address", "x")], {"x": addr(0)})

    def test_has(self):
        self.check([("has", "x", name("k"))], {"x": has("k")})
        self.check([("has", "x", Y)], {"x": has("a"), "y": name("a")})
        self.check([("has", "x", Y), ("has", "x", Z)], {"x": has("a", "b"), "y": name("a"), "z": name("b")})
        self.check([("has", "x", Y), ("has", "x", Z), ("equal", Z, Y)], {"x": has("a"), "y": name("a"), "z": name("a")})
        self.check([("has", "x", meta("x"))], None)
        self.check([("has", "x", Y), ("integer", "y")], None)
        self.check([("has", "x", name("a")), ("has", "x", Y)], {"x": has("a", "b"), "y": name("b")})

    def test_negated_has(self):
        self.check([no(("has", "x", name("k")))], {"x": num(0)})
        self.check([no(("has", "x", name("k"))), ("map", "x")], {"x": EMPTY})
        self.check([no(("has", "x", name("k"))), ("has", "x", name("k"))], None)
        self.check([no(("has", "x", Y)), ("has", "x", Z)], {"x": has("a"), "y": num(0), "z": name("a")})
        self.check([no(("has", "x", Y)), ("has", "x", Z), ("equal", Y, Z)], None)
        self.check([no(("has", "x", Y)), ("has", "x", Z), ("name", "y")], {"x": has("b"), "y": name("a"), "z": name("b")})
        self.check([no(("has", "x", Y)), ("has", "x", name("a")), ("equal", Y, name("a"))], None)


class Choices(Solving):
    """D3 and D4"""

    def test_the_sorts_of_both_operands_in_their_order(self):
        denials = [no(("integer", "x")), no(("integer", "y"))]
        self.check([no(("equal", X, Y))] + denials, {"x": name("a"), "y": name("b")})
        self.check([no(("equal", Y, X))] + denials, {"y": name("a"), "x": name("b")})
        self.check([no(("less", X, Y)), no(("integer", "x"))], {"x": name("a"), "y": num(0)})
        self.check([no(("has", "x", Y)), no(("integer", "y"))], {"x": num(0), "y": name("a")})

    def test_smaller_comes_before_greater(self):
        self.check([no(("equal", X, num(5)))], {"x": num(0)})
        self.check([no(("equal", X, num(-5)))], {"x": num(-6)})
        self.check([no(("equal", num(-5), X))], {"x": num(0)})
        self.check([no(("equal", X, num(-5))), no(("less", X, num(-5)))], {"x": num(0)})

    def test_the_first_condition_decides_first(self):
        # The second case of the first condition is passed over as long as the last case of the second one is possible.
        ends = [("less", num(0), X), ("less", X, num(3)), ("less", num(0), Y), ("less", Y, num(3))]
        self.check([no(("equal", X, Y)), no(("equal", X, num(2)))] + ends, {"x": num(1), "y": num(2)})
        self.check([no(("equal", X, Y)), no(("equal", X, num(1)))] + ends, {"x": num(2), "y": num(1)})
        self.check([no(("equal", X, num(1))), no(("equal", X, Y)), no(("equal", Y, num(1)))] + ends, None)

    def test_no_choice_is_possible(self):
        self.check([("integer", "x"), no(("integer", "x"))], None)
        self.check([no(("equal", X, num(n))) for n in range(5)] + [("less", X, num(5)), ("less", num(-1), X)], None)
        self.check([no(("equal", X, num(n))) for n in range(6) if n != 3] + [("less", X, num(6)), ("less", num(-1), X)], {"x": num(3)})

    def test_contradictions_between_many(self):
        circle = [("less", meta(f"w{n}"), meta(f"w{n + 1}")) for n in range(50)] + [("less", meta("w50"), plus("w0", 50))]
        self.check(circle, None)
        self.check(circle[1:], {f"w{n}": num(n - 1) for n in [*range(1, 51), 0]} | {"w0": num(0)})
        alike = [("equal", meta(f"w{n}"), meta(f"w{n + 1}")) for n in range(50)] + [("name", "w7")]
        self.check(alike + [no(("equal", meta("w50"), meta("w0")))], None)
        self.check(alike, {f"w{n}": name("a") for n in range(51)})

    def test_long_lists(self):
        words = [f"w{n}" for n in range(200)]
        self.check([no(("equal", meta(one), meta(other))) for one, other in zip(words, words[1:])],
                   {word: num(n) for n, word in enumerate(words)})
        self.check([no(("equal", meta(one), meta(other))) for one, other in zip(words, words[1:])] + [
            ("name", "z"), ("integer", "z")], None)
        apart = [no(("equal", meta(one), meta(other))) for one, other in itertools.combinations(words[:20], 2)]
        self.check([("name", word) for word in words[:20]] + apart, {word: name("abcdefghijklmnopqrst"[n]) for n, word in enumerate(words[:20])})
        # What the first conditions choose has nothing to do with the contradiction of the last ones.
        end = [("less", num(0), Z), ("less", Z, num(2)), no(("equal", Z, num(1)))]
        self.check([no(("equal", meta(one), meta(one + "b"))) for one in words] + end, None)

    def test_against_all_choices(self):
        for words, conditions in naive.drawn_lists(1, 1500, 6):
            for order, no_nodes in ((None, ()), (words[::-1] + ["other"], words[:1])):
                expected = naive.solve(conditions, order, no_nodes)
                self.check(conditions, expected, order=order, no_nodes=no_nodes)

    def test_against_all_choices_of_some_sorts(self):
        # With fewer sorts, and with less room for integers and names, more choices contradict each other late.
        no_integer, no_name, no_map = [no((sort, "w")) for sort in ("integer", "name", "map")]
        room = (("less", meta("w"), num(2)), ("less", num(-2), meta("w")))
        for common in ((no_integer,), (no_integer, no_name), (no_integer, no_map), (("integer", "w"),), room):
            for words, conditions in naive.drawn_lists(5, 400, 9, common):
                self.check(conditions, naive.solve(conditions))
                self.check(conditions, naive.solve(conditions, words, words), order=words, no_nodes=words)

    def test_the_solution_makes_all_conditions_true(self):
        for words, conditions in naive.drawn_lists(2, 1500, 8):
            solution = solve(conditions)
            if solution is not None:
                self.assertTrue(all(holds(condition, solution) for condition in conditions), conditions)

    def test_what_is_not_possible_has_no_example(self):
        worths = [num(-1), num(0), num(1), name("a"), name("b"), addr(0), addr(1), EMPTY, has("a"), has("b"), NODE]
        for words, conditions in naive.drawn_lists(3, 300, 5):
            if not is_possible(conditions):
                for chosen in itertools.product(worths, repeat=min(len(words), 3)):
                    bindings = {**dict.fromkeys(words, num(0)), **dict(zip(words, chosen))}
                    self.assertFalse(all(holds(condition, bindings) for condition in conditions), conditions)


class Solutions(Solving):
    """D5"""

    def test_integers_nearest_to_0(self):
        self.check([("less", num(3), X)], {"x": num(4)})
        self.check([("less", X, num(-3))], {"x": num(-4)})
        self.check([("less", X, num(-3)), ("less", num(-9), X)], {"x": num(-4)})
        self.check([("less", num(-9), X)], {"x": num(0)})
        self.check([("integer", "y"), ("less", X, Y), ("less", Y, num(0))], {"y": num(-1), "x": num(-2)})

    def test_integers_that_hang_together(self):
        self.check([("less", plus("x", 3), Y), ("less", Y, plus("z", -3)), ("less", Z, num(0))],
                   {"x": num(-9), "y": num(-5), "z": num(-1)})
        self.check([("less", X, Y), ("less", Y, Z)], {"x": num(0), "y": num(1), "z": num(2)})
        self.check([("less", X, Y), ("less", Y, Z)], {"z": num(0), "x": num(-2), "y": num(-1)}, order=["z", "x", "y"])
        self.check([("less", X, Y), ("less", Y, Z)], {"y": num(0), "x": num(-1), "z": num(1)}, order=["q", "y", "x", "r", "z"])

    def test_integers_of_many_digits(self):
        much = 10 ** 60
        self.check([("less", num(much), X)], {"x": num(much + 1)})
        self.check([("equal", plus("x", much), plus("y", -much))], {"x": num(0), "y": num(2 * much)})
        self.check([("less", X, num(-much)), no(("less", X, num(-much - 1)))], {"x": num(-much - 1)})
        self.check([("less", X, num(-much)), ("less", num(-much - 1), X)], None)

    def test_names_that_stand_in_the_conditions(self):
        self.check([("equal", X, Y), ("equal", Y, name("k"))], {"x": name("k"), "y": name("k")})
        self.check([("name", "x"), no(("equal", Y, name("a")))], {"x": name("b"), "y": num(0)})
        self.check([("name", "x"), ("has", "y", name("a")), ("name", "z")], {"x": name("b"), "y": has("a"), "z": name("c")})
        self.check([("name", "x"), no(("less", name("a"), name("b")))], {"x": name("c")})

    def test_new_names(self):
        words = [f"w{n}" for n in range(60)]
        signs = "abcdefghijklmnopqrstuvwxyz"
        names = list(signs) + ["a" + sign for sign in signs] + ["b" + sign for sign in signs]
        self.check([("name", word) for word in words], {word: name(names[n]) for n, word in enumerate(words)})
        without = [sign for sign in names if sign not in ("b", "aa")]
        self.check([("name", word) for word in words] + [no(("equal", meta("w0"), name("b"))), no(("equal", meta("w1"), name("aa")))],
                   {word: name(without[n]) for n, word in enumerate(words)})

    def test_names_that_are_the_same_by_the_choice(self):
        both = [("name", "x"), ("name", "y"), ("name", "z"), ("equal", X, Z)]
        self.check(both, {"x": name("a"), "y": name("b"), "z": name("a")})
        self.check(both, {"z": name("a"), "y": name("b"), "x": name("a")}, order=["z", "y", "x"])
        self.check(both, {"y": name("a"), "z": name("b"), "x": name("b")}, order=["y", "z", "x"])

    def test_a_word_and_a_name_are_different_things(self):
        self.check([("equal", X, name("y")), ("name", "y"), ("name", "z")], {"x": name("y"), "y": name("a"), "z": name("b")})

    def test_addresses(self):
        self.check([("address", "x"), ("address", "y"), ("address", "z")], {"x": addr(0), "y": addr(1), "z": addr(2)})
        self.check([("address", "x"), ("address", "y"), no(("equal", X, addr(1))), no(("equal", num(1), addr(0)))],
                   {"x": addr(2), "y": addr(3)})
        self.check([("address", "x"), ("address", "y"), ("address", "z"), ("equal", Z, Y)], {"x": addr(0), "y": addr(1), "z": addr(1)})
        self.check([("address", "x"), ("equal", X, Y), ("equal", Y, addr(9))], {"x": addr(9), "y": addr(9)})

    def test_maps(self):
        self.check([("has", "x", name("b")), ("has", "x", name("a"))], {"x": has("a", "b")})
        self.check([("has", "x", name("b")), ("has", "x", name("b"))], {"x": has("b")})
        self.check([("has", "x", Y), ("equal", Y, name("k")), no(("has", "z", Y)), ("map", "z")],
                   {"x": has("k"), "y": name("k"), "z": EMPTY})
        self.check([("has", "m", X), ("has", "n", X), ("has", "n", Y)],
                   {"m": has("a"), "x": name("a"), "n": has("a", "b"), "y": name("b")})

    def test_order(self):
        conditions = [("has", "m", X), ("less", Y, num(5)), no(("map", "n"))]
        self.check(conditions, {"m": has("a"), "x": name("a"), "y": num(0), "n": num(0)})
        self.check(conditions, {"n": num(0), "y": num(0), "x": name("a"), "m": has("a")}, order=["n", "y", "x", "m"])
        self.check(conditions, {"n": num(0), "y": num(0), "x": name("a"), "m": has("a")}, order=["n", "o", "y", "x", "m", "p"])

    def test_the_first_places_of_words(self):
        self.check([("less", num(0), Z), ("less", Y, X)], {"z": num(1), "y": num(0), "x": num(1)})
        self.check([no(("equal", num(0), plus("z", 1))), ("equal", X, Z)], {"z": num(0), "x": num(0)})


class NoNodes(Solving):
    """D6"""

    def test_no_nodes(self):
        others = [no((sort, "x")) for sort in ("integer", "name", "address", "map")]
        self.check(others, {"x": NODE})
        self.check(others, {"x": NODE}, no_nodes=["y"])
        self.check(others, None, no_nodes=["x"])
        self.check(others, None, no_nodes=("y", "x"))
        self.check(others[:3], {"x": EMPTY}, no_nodes=["x"])

    def test_other_choices_stay(self):
        conditions = [no(("equal", X, X)), no(("equal", Y, Y)), no(("map", "y"))]
        self.check(conditions, {"x": EMPTY, "y": NODE}, no_nodes=["x"])
        self.check(conditions, None, no_nodes=["y"])


class Asking(unittest.TestCase):
    """is_possible, follows and denied"""

    def test_denied(self):
        for condition in (("integer", "x"), ("less", X, Y), ("equal", X, num(1)), ("has", "x", Y)):
            self.assertEqual(denied(condition), no(condition))
            self.assertEqual(denied(no(condition)), condition)

    def test_is_possible(self):
        self.assertIs(is_possible([]), True)
        self.assertIs(is_possible([("integer", "x")]), True)
        self.assertIs(is_possible((("integer", "x"), ("name", "x"))), False)

    def test_follows(self):
        self.assertIs(follows([("less", X, Y)], ("integer", "x")), True)
        self.assertIs(follows([("less", X, Y)], ("integer", "z")), False)
        self.assertTrue(follows([("less", X, Y), ("less", Y, Z)], ("less", plus("x", 1), Z)))
        self.assertFalse(follows([("less", X, Y), ("less", Y, Z)], ("less", plus("x", 2), Z)))
        self.assertTrue(follows([("less", X, Y)], no(("equal", X, Y))))
        self.assertTrue(follows([no(("less", X, Y)), no(("less", Y, X)), ("integer", "x"), ("integer", "y")], ("equal", X, Y)))
        self.assertFalse(follows([no(("less", X, Y)), no(("less", Y, X)), ("integer", "x")], ("equal", X, Y)))
        self.assertTrue(follows([("has", "x", Y), no(("has", "x", Z)), ("name", "z")], no(("equal", Y, Z))))
        self.assertTrue(follows([("integer", "x"), ("name", "x")], ("map", "y")))
        self.assertTrue(follows([], ("equal", num(1), num(1))))
        self.assertFalse(follows([], ("equal", X, X)))
        self.assertTrue(follows((("integer", "x"),), ("equal", X, X)))

    def test_follows_agrees_with_is_possible(self):
        for _, conditions in naive.drawn_lists(4, 400, 5):
            if conditions:
                *first, last = conditions
                self.assertEqual(follows(first, last), naive.solve([*first, denied(last)]) is None)

    def test_nothing_is_changed(self):
        conditions, order, no_nodes = [("less", X, Y), no(("name", "z"))], ["z", "y", "x"], ["z"]
        found = solve(conditions, order=order, no_nodes=no_nodes)
        found["x"] = None
        self.assertEqual(solve(conditions, order=order, no_nodes=no_nodes), {"z": num(0), "y": num(0), "x": num(-1)})
        follows(conditions, ("integer", "x"))
        self.assertEqual(conditions, [("less", X, Y), no(("name", "z"))])
        self.assertEqual((order, no_nodes), (["z", "y", "x"], ["z"]))


if __name__ == "__main__":
    unittest.main()
