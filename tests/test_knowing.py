"""passproven.knowing: the sure metavariables of B5, and the promises B11 to B13."""

import unittest

from building import addr, chain, mapping, meta, name, node, num
from passproven.knowing import is_defined, known, sort_of, sure_words

TABLE = {
    "v": ("v", 2, "value", (1, 0)),
    "half": ("half", 2, "value", (1,)),
    "box": ("box", 1, "value", ()),
    "s": ("s", 1, "value", (0,)),
    "unit": ("unit", 0, "value", ()),
    "p": ("p", 3, "plain", (2, 0)),
    "q": ("q", 1, "plain", (0,)),
    "stop": ("stop", 0, "plain", ()),
}


class Sure(unittest.TestCase):
    """B5"""

    def check(self, pattern, *words):
        self.assertEqual(sure_words(TABLE, pattern), {word: True for word in words})

    def test_strict_places_of_the_pattern(self):
        self.check(node("p", meta("a"), meta("b"), meta("c")), "a", "c")
        self.check(node("q", meta("a")), "a")
        self.check(node("stop"))
        self.check(node("q", num(1)))

    def test_strict_places_at_any_depth(self):
        self.check(node("q", node("v", meta("a"), node("half", meta("b"), meta("c")))), "a", "c")
        self.check(node("q", chain(11, meta("a"))), "a")
        self.check(node("q", node("box", meta("a"))))

    def test_below_other_places_nothing_is_sure(self):
        self.check(node("p", meta("a"), node("v", meta("b"), meta("c")), node("unit")), "a")
        self.check(node("p", meta("a"), node("q", meta("b")), num(1)), "a")
        self.check(node("q", node("half", node("v", meta("a"), meta("b")), meta("c"))), "c")

    def test_a_new_dict(self):
        pattern = node("q", meta("a"))
        sure_words(TABLE, pattern)["b"] = True
        self.check(pattern, "a")


class Known(unittest.TestCase):
    """B11"""

    PATTERN = node("p", meta("x"), meta("z"), node("v", meta("y"), num(1)))

    def sorts(self, *conditions, action=None, pattern=None):
        found = known(TABLE, ("r", pattern or self.PATTERN, conditions, action, num(0)))
        self.assertIsInstance(found, tuple)
        return found

    def test_without_conditions(self):
        self.assertEqual(self.sorts(), (("x", "value"), ("z", "any"), ("y", "value")))

    def test_order_of_the_pattern(self):
        pattern = node("p", node("v", meta("d"), meta("b")), meta("c"), meta("a"))
        words = [word for word, _ in self.sorts(("integer", "a"), ("name", "b"), pattern=pattern)]
        self.assertEqual(words, ["d", "b", "c", "a"])

    def test_each_sort(self):
        for condition, sort in (
            (("integer", "x"), "integer"), (("name", "x"), "name"), (("map", "x"), "map"), (("address", "x"), "address"),
            (("less", meta("x"), num(1)), "integer"), (("less", num(1), meta("x")), "integer"),
            (("less", name("a"), ("sum", "x", 1)), "integer"), (("less", ("sum", "x", -1), addr(1)), "integer"),
            (("has", "x", name("a")), "map"), (("has", "y", meta("x")), "name"),
            (("equal", meta("x"), num(1)), "value"), (("equal", ("sum", "x", 1), num(1)), "value"),
            (("equal", meta("x"), name("a")), "value"),
        ):
            self.assertEqual(dict(self.sorts(condition))["x"], sort, condition)
            self.assertEqual(dict(self.sorts(("not", condition)))["x"], "value", condition)
            self.assertEqual(dict(self.sorts(("not", ("integer", "y")), condition))["x"], sort, condition)

    def test_other_metavariables(self):
        self.assertEqual(
            self.sorts(("less", meta("x"), ("sum", "y", 1))),
            (("x", "integer"), ("z", "any"), ("y", "integer")),
        )
        self.assertEqual(self.sorts(("has", "x", meta("y"))), (("x", "map"), ("z", "any"), ("y", "name")))

    def test_first_sort_counts(self):
        integer, less, word, mapped = ("integer", "x"), ("less", meta("x"), num(1)), ("name", "x"), ("map", "x")
        has, key, address = ("has", "x", name("a")), ("has", "y", meta("x")), ("address", "x")
        for conditions, sort in (
            ((address, has, key, less), "integer"), ((address, mapped, word, integer), "integer"),
            ((address, mapped, word), "name"), ((address, has, key), "name"), ((address, mapped), "map"),
            ((address, has), "map"), ((address,), "address"), ((("not", integer), ("not", word), address), "address"),
            ((("has", "x", meta("x")),), "name"),
        ):
            self.assertEqual(dict(self.sorts(*conditions))["x"], sort)
            self.assertEqual(dict(self.sorts(*reversed(conditions)))["x"], sort)

    def test_actions(self):
        three = (("x", "value"), ("z", "any"), ("y", "value"))
        self.assertEqual(self.sorts(action=("new", num(1), "a")), three + (("a", "address"),))
        self.assertEqual(self.sorts(action=("read", addr(1), "a")), three + (("a", "value"),))
        self.assertEqual(self.sorts(action=("write", addr(1), num(1))), three)
        self.assertEqual(self.sorts(action=("put", num(1))), three)
        self.assertEqual(self.sorts(action=("read", meta("x"), "b"))[3], ("b", "value"))

    def test_conditions_may_be_a_list(self):
        rule = ("r", self.PATTERN, [("integer", "x")], None, num(0))
        self.assertEqual(known(TABLE, rule), (("x", "integer"), ("z", "any"), ("y", "value")))
        self.assertEqual(rule[2], [("integer", "x")])


SORTS = {"i": "integer", "n": "name", "m": "map", "a": "address", "w": "value", "y": "any"}


class Sorts(unittest.TestCase):
    """B12"""

    def check(self, form, sort):
        self.assertEqual(sort_of(TABLE, SORTS, form), sort, form)

    def test_leaves(self):
        self.check(num(1), "integer")
        self.check(name("y"), "name")
        self.check(addr(1), "address")
        self.check(("map", ()), "map")
        self.check(mapping(a=meta("y")), "map")
        for word, sort in SORTS.items():
            self.check(meta(word), sort)

    def test_forms(self):
        self.check(("plus", meta("y"), num(1)), "integer")
        self.check(("minus", num(1), num(1)), "integer")
        self.check(("set", meta("y"), name("a"), num(1)), "map")
        self.check(("get", meta("m"), name("a")), "value")

    def test_nodes_of_value_constructors(self):
        self.check(node("unit"), "value")
        self.check(node("box", meta("y")), "value")
        self.check(node("s", meta("y")), "any")
        for form in (meta("w"), meta("i"), meta("n"), meta("m"), meta("a"), num(1), ("get", meta("m"), name("a")),
                     ("plus", num(1), num(1)), ("map", ()), node("unit"), node("box", node("stop"))):
            self.check(node("s", form), "value")
        self.check(node("v", num(1), meta("y")), "any")
        self.check(node("v", meta("y"), num(1)), "any")
        self.check(node("half", meta("y"), num(1)), "value")
        self.check(node("half", num(1), meta("y")), "any")
        self.check(chain(11, meta("w")), "value")
        self.check(chain(11, meta("y")), "any")
        self.check(node("s", node("stop")), "any")

    def test_nodes_of_plain_constructors(self):
        self.check(node("stop"), "any")
        self.check(node("q", num(1)), "any")
        self.check(node("p", num(1), num(2), num(3)), "any")


class Defined(unittest.TestCase):
    """B13"""

    CONDITIONS = (("map", "m"), ("has", "m", name("a")), ("has", "m", meta("n")), ("not", ("has", "m", name("b"))))

    def check(self, form, wanted, conditions=CONDITIONS):
        for around in (form, node("box", form), node("p", num(1), num(2), form), node("half", form, num(1))):
            self.assertIs(is_defined(TABLE, SORTS, conditions, around), wanted, around)
            self.assertIs(is_defined(TABLE, SORTS, list(conditions), around), wanted, around)

    def test_terms(self):
        for form in (num(1), name("a"), addr(1), ("map", ()), node("stop"), meta("y"), node("s", meta("y")),
                     chain(12, meta("y"))):
            self.check(form, True)

    def test_get(self):
        self.check(("get", meta("m"), name("a")), True)
        self.check(("get", meta("m"), meta("n")), True)
        self.check(("get", meta("m"), name("b")), False)
        self.check(("get", meta("m"), name("c")), False)
        self.check(("get", meta("m"), meta("w")), False)
        self.check(("get", meta("w"), name("a")), False)
        self.check(("get", meta("m"), name("a")), False, conditions=(("map", "m"),))
        self.check(("get", meta("m"), name("n")), False)
        self.check(("get", mapping(a=num(1)), name("a")), False)
        self.check(("get", name("m"), name("a")), False)
        self.check(("get", ("set", meta("m"), name("a"), num(1)), name("a")), False)
        self.check(("get", meta("m"), ("get", meta("m"), name("a"))), False)

    def test_set(self):
        self.check(("set", meta("m"), name("c"), num(1)), True)
        self.check(("set", meta("m"), meta("n"), meta("w")), True)
        self.check(("set", ("map", ()), name("c"), num(1)), True)
        self.check(("set", ("set", meta("m"), name("a"), num(1)), name("a"), ("map", ())), True)
        self.check(("set", meta("m"), name("c"), ("get", meta("m"), name("a"))), True)
        self.check(("set", meta("m"), name("c"), node("box", meta("y"))), True)
        self.check(("set", meta("w"), name("c"), num(1)), False)
        self.check(("set", ("get", meta("m"), name("a")), name("c"), num(1)), False)
        self.check(("set", meta("m"), meta("w"), num(1)), False)
        self.check(("set", meta("m"), meta("i"), num(1)), False)
        self.check(("set", meta("m"), name("c"), meta("y")), False)
        self.check(("set", meta("m"), name("c"), node("stop")), False)
        self.check(("set", meta("m"), name("c"), node("s", meta("y"))), False)
        self.check(("set", ("set", meta("w"), name("a"), num(1)), name("a"), num(1)), False)

    def test_plus_and_minus(self):
        for head in ("plus", "minus"):
            self.check((head, num(1), meta("i")), True)
            self.check((head, ("minus", num(1), num(2)), ("plus", meta("i"), meta("i"))), True)
            self.check((head, meta("w"), num(1)), False)
            self.check((head, num(1), meta("w")), False)
            self.check((head, num(1), meta("a")), False)
            self.check((head, num(1), ("get", meta("m"), name("a"))), False)
            self.check((head, num(1), (head, meta("i"), meta("n"))), False)

    def test_maps(self):
        self.check(mapping(a=num(1), b=meta("w"), c=node("box", meta("y"))), True)
        self.check(mapping(a=num(1), b=meta("y")), False)
        self.check(mapping(a=node("stop")), False)
        self.check(mapping(a=mapping(b=meta("y"))), False)
        self.check(mapping(a=("plus", meta("w"), num(1))), False)
        self.check(mapping(a=("plus", meta("i"), num(1))), True)

    def test_arguments_stay(self):
        sorts, conditions = dict(SORTS), list(self.CONDITIONS)
        is_defined(TABLE, sorts, conditions, ("set", meta("m"), name("c"), ("get", meta("m"), name("a"))))
        self.assertEqual(sorts, SORTS)
        self.assertEqual(conditions, list(self.CONDITIONS))


if __name__ == "__main__":
    unittest.main()
