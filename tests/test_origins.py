"""passproven.origins: the promises J1 to J6."""

import random
import unittest

from building import addr, chain, mapping, meta, name, node, num, rows_of
from drawing import Drawing
from passproven.errors import TooLarge
from passproven.languages import read_language
from passproven.matching import match
from passproven.origins import source_of, two_sources
from passproven.passes import translate
from passproven.terms import height, size

TARGET = read_language([("lit", 1, "value", [0]), ("pair", 2, "value", [0, 1]), ("add", 2, "plain", [0, 1]), ("end", 0, "value", []), ("s", 1, "value", [0]),
                        ("three", 3, "value", [])], [])


def a_pass(*texts):
    """A pass from a language that has just the constructors of these rows."""
    heads = [text.split(":")[0].split() for text in texts]
    source = read_language([(head[0], len(head) - 1, "plain", []) for head in heads], [])
    return rows_of(source, TARGET, *texts)


def all_sources(rows, term):
    """All sources of a term, by J1 to J3."""
    if term[0] in ("int", "name", "addr"):
        return [term]
    if term[0] == "map":
        listed = [()]
        for word, entry in term[1]:
            listed = [entries + ((word, source),) for entries in listed for source in all_sources(rows, entry)]
        return [("map", entries) for entries in listed]
    found = []
    for constructor, parameters, template in rows:
        bindings = match(template, term)
        if bindings is not None:
            listed = [()]
            for word in parameters:
                listed = [parts + (source,) for parts in listed for source in all_sources(rows, bindings[word])]
            found += [("node", constructor, parts) for parts in listed]
    return found


class Sources(unittest.TestCase):
    def check(self, rows, term, expected):
        before = repr(rows)
        for _ in range(2):
            self.assertEqual(source_of(rows, term), expected)
        self.assertEqual(repr(rows), before)
        if expected is not None:
            self.assertEqual(translate(rows, expected), term)


class Firsts(Sources):
    """J1 to J3"""

    ROWS = a_pass("true: (lit 1)", "num x: (lit $x)", "sum a b: (add $b (s $a))", "two: (s (lit 'two))", "back x: (pair $x (pair 'end @0))", "keep a b: (pair $a $b)", "nil: end")

    def test_the_examples(self):
        lit = ("node", "lit", (("int", 1),))
        rows = (("true", (), lit), ("num", ("x",), ("node", "lit", (("meta", "x"),))))
        self.check(rows, lit, ('node', 'true', ()))
        self.check(rows, ("node", "lit", (("int", 2),)), ('node', 'num', (('int', 2),)))

    def test_leaves(self):
        for term in (num(5), num(-10 ** 40), name("a"), addr(7)):
            self.check(self.ROWS, term, term)

    def test_maps(self):
        self.check(self.ROWS, mapping(), mapping())
        self.check(self.ROWS, mapping(a=num(1), b=node("end"), c=mapping(a=node("lit", num(1)))), mapping(a=num(1), b=node("nil"), c=mapping(a=node("true"))))
        self.check(self.ROWS, mapping(a=num(1), b=node("s", num(1))), None)
        self.check(self.ROWS, mapping(a=mapping(b=node("three", num(1), num(2), num(3)))), None)
        # A source need not be a program: in its maps stand nodes that are no values.
        self.check(self.ROWS, mapping(a=node("add", num(1), node("s", num(2)))), mapping(a=node("sum", num(2), num(1))))

    def test_nodes(self):
        self.check(self.ROWS, node("end"), node("nil"))
        self.check(self.ROWS, node("add", node("lit", num(3)), node("s", node("end"))), node("sum", node("nil"), node("num", num(3))))
        self.check(self.ROWS, node("add", num(1), num(2)), None)
        self.check(self.ROWS, node("s", num(1)), None)
        self.check(self.ROWS, node("other", num(1)), None)

    def test_several_templates(self):
        self.check(self.ROWS, node("lit", num(1)), node("true"))
        self.check(self.ROWS, node("lit", node("lit", num(1))), node("num", node("true")))
        self.check(self.ROWS, node("pair", num(1), node("pair", name("end"), addr(0))), node("back", num(1)))
        self.check(self.ROWS, node("pair", num(1), node("pair", name("end"), addr(1))), node("keep", num(1), node("keep", name("end"), addr(1))))
        other = self.ROWS[::-1]
        self.check(other, node("lit", num(1)), node("num", num(1)))
        self.check(other, node("pair", num(1), node("pair", name("end"), addr(0))), node("keep", num(1), node("keep", name("end"), addr(0))))

    def test_leaves_in_templates(self):
        rows = a_pass("i: (pair 5 (pair 'x @3))", "n a: (pair 'x (s $a))", "m a: (pair @3 $a)", "j a b: (pair $a $b)")
        self.check(rows, node("pair", num(5), node("pair", name("x"), addr(3))), node("i"))
        for term in (node("pair", num(6), node("pair", name("x"), addr(3))), node("pair", num(5), node("pair", name("y"), addr(3))),
                     node("pair", num(5), node("pair", name("x"), num(3))), node("pair", num(5), node("pair", num(5), addr(3)))):
            self.assertEqual(source_of(rows, term)[1], "j")
        self.check(rows, node("pair", name("x"), node("s", num(1))), node("n", num(1)))
        self.check(rows, node("pair", name("x"), num(1)), node("j", name("x"), num(1)))
        self.check(rows, node("pair", addr(3), num(1)), node("m", num(1)))
        self.check(rows, node("pair", addr(4), num(1)), node("j", addr(4), num(1)))

    def test_names_are_not_constructors(self):
        rows = a_pass("a: (lit 'end)", "b: (s end)", "c: end", "d x: (pair $x 'end)")
        self.check(rows, node("lit", name("end")), node("a"))
        self.check(rows, node("lit", node("end")), None)
        self.check(rows, node("s", node("end")), node("b"))
        self.check(rows, node("s", name("end")), None)
        self.check(rows, node("pair", node("end"), node("end")), None)
        self.assertIsNone(two_sources(a_pass("a: (lit 'end)", "b: (lit end)", "c: end")))
        self.assertIsNone(two_sources(a_pass("b: (lit end)", "a: (lit 'end)", "c: end")))

    def test_a_first_template_whose_parts_have_no_source(self):
        rows = a_pass("one a: (s (s $a))", "two a: (s $a)", "lit_ a: (lit $a)")
        self.check(rows, chain(1, num(0)), node("two", num(0)))
        self.check(rows, chain(3, num(0)), node("one", node("two", num(0))))
        # Below one a source is missing, so that a later template is taken, although the first one matches, too.
        rows = a_pass("one a: (s (s $a))", "two a: (s (lit $a))", "three a: (s (s (lit $a)))", "four a b: (pair $a $b)")
        self.check(rows, chain(2, node("lit", num(1))), node("three", num(1)))
        self.check(rows, chain(3, node("lit", num(1))), node("one", node("two", num(1))))
        self.check(rows, chain(2, node("end")), None)
        self.check(rows, node("pair", num(1), chain(4, node("lit", num(1)))), node("four", num(1), node("one", node("three", num(1)))))

    def test_parts_without_a_source_deep_inside(self):
        rows = a_pass("one a: (s $a)", "two a b: (pair $a $b)")
        self.check(rows, chain(60, node("pair", num(1), node("end"))), None)
        self.check(rows, node("pair", chain(60, num(0)), chain(60, node("lit", num(0)))), None)
        self.check(rows, node("pair", chain(59, num(0)), num(1)), node("two", chain(59, num(0), "one"), num(1)))

    def test_the_order_of_parameters(self):
        rows = a_pass("swap a b c: (three $c $a $b)")
        self.check(rows, node("three", num(1), num(2), num(3)), node("swap", num(2), num(3), num(1)))

    def test_many_ways(self):
        rows = a_pass("a x: (s (s $x))", "b x: (s $x)", "c x: (s (s (s $x)))")
        self.check(rows, chain(60, num(0)), chain(30, num(0), "a"))
        self.check(rows, chain(60, node("end")), None)
        rows = a_pass("a x: (s (s (s $x)))", "b x: (s (s $x))", "c: end")
        self.check(rows, chain(59, node("end")), chain(19, node("b", node("c")), "a"))
        self.check(rows, chain(200, num(0)), chain(66, node("b", num(0)), "a"))

    def test_wide_terms(self):
        entries = {f"w{n}": node("lit", num(n)) for n in range(900)}
        found = source_of(self.ROWS, mapping(**entries))
        self.assertEqual(found, mapping(**{word: node("true") if entry == node("lit", num(1)) else node("num", entry[2][0]) for word, entry in entries.items()}))

    def test_against_all_sources(self):
        dice = random.Random(8)
        rows = a_pass("a x: (s (s $x))", "b x y: (pair (s $x) $y)", "c x y: (pair $x (pair $y 1))", "d x: (s $x)", "e: end", "f x y: (pair $x $y)", "g: (lit 1)", "h x: (pair end (s $x))")
        drawn = [rows] + [tuple(dice.sample(rows, dice.randint(3, len(rows)))) for _ in range(20)]
        for rows in drawn:
            for _ in range(60):
                term = self.drawn(dice, 4)
                order = [row[0] for row in rows]
                listed = all_sources(rows, term)
                expected = min(listed, key=lambda source: self.places(order, source)) if listed else None
                self.check(rows, term, expected)

    def drawn(self, dice, depth):
        if depth == 0 or dice.random() < 0.2:
            return dice.choice((num(1), num(2), name("a"), node("end"), node("lit", num(1)), node("lit", num(2))))
        if dice.random() < 0.1:
            return mapping(a=self.drawn(dice, depth - 1))
        if dice.random() < 0.5:
            return node("s", self.drawn(dice, depth - 1))
        return node("pair", self.drawn(dice, depth - 1), self.drawn(dice, depth - 1))

    def places(self, order, source):
        """The first source is the least by this: the constructors from the root on; of equal ones the parts decide."""
        if source[0] == "map":
            return [self.places(order, entry) for _, entry in source[1]]
        if source[0] != "node":
            return []
        return [order.index(source[1])] + [self.places(order, part) for part in source[2]]

    def test_translations_have_sources(self):
        for seed in range(20):
            drawn = Drawing(seed)
            source = drawn.language(1)
            _, rows = drawn.image(source)
            for _ in range(20):
                program = drawn.program(4)
                image = translate(rows, program)
                found = source_of(rows, image)
                self.assertEqual(translate(rows, found), image)
                if two_sources(rows) is None:
                    self.assertEqual(found, program)


def naive_pair(rows):
    """J4 to J6, round by round; without the bounds."""
    nodes = {}

    def number(row, part, way):
        if part[0] == "node":
            nodes[row, way] = part
            for place, inner in enumerate(part[2]):
                number(row, inner, way + (place,))

    for row, (_, _, template) in enumerate(rows):
        number(row, template, ())
    found = {}

    def meet(one, way, other, place, left, right):
        """Whether a part of the template one meets a part of the template other; fills in both dicts."""
        first, second = part_at(rows[one][2], way), part_at(rows[other][2], place)
        if first[0] == "meta" and second[0] == "meta":
            left[first[1]] = right[second[1]] = num(0)
            return True
        for part, here, others, there in ((first, left, right, (other, place)), (second, right, left, (one, way))):
            if part[0] == "meta":
                against = second if part is first and here is left else first
                if against[0] != "node":
                    here[part[1]] = against
                    return True
                if there not in found:
                    return False
                here[part[1]] = found[there][0]
                others.update(found[there][1])
                return True
        if first[0] == "node" and second[0] == "node":
            return first[1] == second[1] and all([meet(one, way + (at,), other, place + (at,), left, right) for at in range(len(first[2]))])
        return first == second

    def made(row, bindings):
        return ("node", rows[row][0], tuple(bindings[word] for word in rows[row][1]))

    while True:
        new = {}
        for row, way in nodes:
            for other in range(len(rows)):
                left, right = {}, {}
                if (row, way) not in found and (row, way) not in new and meet(row, way, other, (), left, right):
                    new[row, way] = (made(other, right), left)
        if not new:
            break
        found.update(new)
    for one in range(len(rows)):
        for other in range(one + 1, len(rows)):
            left, right = {}, {}
            if meet(one, (), other, (), left, right):
                return made(one, left), made(other, right)
    return None


def part_at(term, way):
    for place in way:
        term = term[2][place]
    return term


class Pairs(Sources):
    """J4 to J6"""

    def pair(self, rows, first, second, translation):
        before = repr(rows)
        for _ in range(2):
            self.assertEqual(two_sources(rows), (first, second, translation))
        self.assertEqual(repr(rows), before)
        self.assertNotEqual(first, second)
        self.assertEqual((translate(rows, first), translate(rows, second)), (translation, translation))

    def test_the_example(self):
        lit = ("node", "lit", (("int", 1),))
        rows = (("true", (), lit), ("num", ("x",), ("node", "lit", (("meta", "x"),))))
        self.pair(rows, ('node', 'true', ()), ('node', 'num', (('int', 1),)), ('node', 'lit', (('int', 1),)))
        self.pair(rows[::-1], ('node', 'num', (('int', 1),)), ('node', 'true', ()), ('node', 'lit', (('int', 1),)))

    def test_none(self):
        self.assertIsNone(two_sources(a_pass("a: (pair 1 2)", "b: (pair 1 3)", "c: (pair 2 2)", "d: (pair 1 'a)")))
        for rows in (a_pass("a x: (s $x)", "b: end"), a_pass("a: (lit 1)", "b: (lit 2)", "c: (lit 'a)", "d: (lit @1)"), a_pass("a x: (lit (s $x))", "b: (lit 1)"),
                     a_pass("a x: (s (lit $x))", "b x: (s (s $x))", "c x: (s (pair $x 1))"), a_pass("a x y: (pair $x (s $y))", "b: (pair 1 2)"), a_pass("a: end"), ()):
            self.assertIsNone(two_sources(rows))

    def test_leaves(self):
        self.pair(a_pass("a: (pair 1 'b)", "b: (pair 1 'b)"), node("a"), node("b"), node("pair", num(1), name("b")))
        self.pair(a_pass("a: (lit @7)", "b x: (lit $x)"), node("a"), node("b", addr(7)), node("lit", addr(7)))
        self.pair(a_pass("a x: (pair $x 'n)", "b x: (pair 5 $x)"), node("a", num(5)), node("b", name("n")), node("pair", num(5), name("n")))

    def test_two_parameters(self):
        self.pair(a_pass("a x y: (pair $x $y)", "b x y: (pair $y $x)"), node("a", num(0), num(0)), node("b", num(0), num(0)), node("pair", num(0), num(0)))

    def test_a_parameter_and_a_node(self):
        # For the inner node something is found only if a template meets it.
        self.assertIsNone(two_sources(a_pass("a: (s end)", "b x: (s $x)", "c: (lit 1)")))
        self.pair(a_pass("a: (s end)", "b x: (s $x)", "c: end"), node("a"), node("b", node("c")), node("s", node("end")))
        self.pair(a_pass("a x: (s (lit $x))", "b x: (s $x)", "c x: (lit $x)"), node("a", num(0)), node("b", node("c", num(0))), chain(1, node("lit", num(0))))
        self.pair(a_pass("a x: (s (lit $x))", "b x: (s $x)", "c: (lit 7)"), node("a", num(7)), node("b", node("c")), chain(1, node("lit", num(7))))

    def test_the_template_itself_is_a_node(self):
        # a meets itself, so that something is found for the whole template of a, and then for b.
        self.pair(a_pass("a x: (s $x)", "b x: (s (s $x))"), node("a", node("a", num(0))), node("b", num(0)), chain(2, num(0)))
        self.pair(a_pass("b x: (s (s $x))", "a x: (s $x)"), node("b", num(0)), node("a", node("a", num(0))), chain(2, num(0)))

    def test_later_rounds(self):
        # Each of the nodes needs what is found for the one within it.
        rows = a_pass("a: (s (s (s (lit 1))))", "b x: (s $x)", "c: (lit 1)")
        self.pair(rows, node("a"), node("b", node("b", node("b", node("c")))), chain(3, node("lit", num(1))))
        rows = a_pass("deep: (pair (s (s end)) (pair (s end) 1))", "p x y: (pair $x $y)", "b x: (s $x)", "c: end")
        self.pair(rows, node("deep"), node("p", node("b", node("b", node("c"))), node("p", node("b", node("c")), num(1))),
                  node("pair", chain(2, node("end")), node("pair", chain(1, node("end")), num(1))))
        # The parameter of a stands for what is found for the node in c.
        rows = a_pass("a x: (s (s (s (lit $x))))", "b x: (s $x)", "c x y: (lit (pair $x $y))", "d x y: (pair $y (s $x))")
        self.pair(rows, node("a", node("d", num(0), num(0))), node("b", node("b", node("b", node("c", num(0), node("b", num(0)))))),
                  chain(3, node("lit", node("pair", num(0), node("s", num(0))))))

    def test_the_first_template_that_meets_is_taken(self):
        rows = a_pass("a: (pair (lit 1) 0)", "b x: (pair $x 0)", "c x: (lit $x)", "d: (lit 1)")
        self.pair(rows, node("a"), node("b", node("c", num(1))), node("pair", node("lit", num(1)), num(0)))
        rows = a_pass("a: (pair (lit 1) 0)", "b x: (pair $x 0)", "d: (lit 1)", "c x: (lit $x)")
        self.pair(rows, node("a"), node("b", node("d")), node("pair", node("lit", num(1)), num(0)))
        # d meets the node only in the second round; then c is found already.
        rows = a_pass("d x: (lit (s $x))", "c x: (lit $x)", "a: (pair (lit (s end)) 0)", "b x: (pair $x 0)", "e: end", "f x: (s $x)")
        first, second, _ = two_sources(rows)
        self.assertEqual((first[1], second[1]), ("d", "c"))
        rows = a_pass("d x: (lit (s $x))", "a: (pair (lit (s (s 1))) 0)", "b x: (pair $x 0)", "e x: (s $x)")
        self.pair(rows, node("a"), node("b", node("d", node("e", num(1)))), node("pair", node("lit", chain(2, num(1))), num(0)))

    def test_what_was_found_in_the_same_round_is_not_used(self):
        # In the first round c is found for the node end, and t for the node (lit end) only in the second one, when
        # the earlier u, which needs end, too, meets it as well.
        rows = a_pass("a: (pair (lit end) 0)", "b x: (pair $x 0)", "u x: (lit $x)", "t: (lit end)", "c: end")
        self.assertEqual(two_sources(rows), (node("a"), node("b", node("t")), node("pair", node("lit", node("end")), num(0))))

    def test_the_first_pair(self):
        rows = a_pass("z: (lit 9)", "a: (s 1)", "b: (s 2)", "c x: (s $x)", "d x: (s $x)", "e: (lit 9)")
        self.pair(rows, node("z"), node("e"), node("lit", num(9)))
        self.pair(rows[1:], node("a"), node("c", num(1)), node("s", num(1)))
        self.pair(rows[2:], node("b"), node("c", num(2)), node("s", num(2)))
        self.pair(rows[3:], node("c", num(0)), node("d", num(0)), node("s", num(0)))
        self.assertIsNone(two_sources(rows[4:]))

    def test_against_the_words(self):
        dice = random.Random(4)
        found = [0, 0]
        for _ in range(1500):
            rows = self.drawn_rows(dice)
            expected = naive_pair(rows)
            if expected is None:
                self.assertIsNone(two_sources(rows))
            else:
                self.pair(rows, *expected, translate(rows, expected[0]))
            found[expected is not None] += 1
        self.assertGreater(min(found), 100)

    def drawn_rows(self, dice):
        rows = []
        for number in range(dice.randint(1, 5)):
            words = list("xyz")
            template = self.drawn_template(dice, 3, words)
            while template[0] != "node":
                words = list("xyz")
                template = self.drawn_template(dice, 3, words)
            used = "xyz"[:3 - len(words)]
            rows.append((f"c{number}", tuple(dice.sample(used, len(used))), template))
        return tuple(rows)

    def drawn_template(self, dice, depth, words):
        pick = dice.random()
        if words and pick < 0.3 and depth < 3:
            return meta(words.pop(0))
        if depth == 0 or pick < 0.4:
            return dice.choice((num(1), num(2), name("a")))
        constructor, many = dice.choice((("lit", 1), ("s", 1), ("pair", 2), ("end", 0)))
        return node(constructor, *[self.drawn_template(dice, depth - 1, words) for _ in range(many)])


class Bounds(Sources):
    def test_parts(self):
        # The two terms have one and two parts, and the translation has all the others.
        for more, is_large in ((3995, False), (3996, True)):
            template = self.bulky(more)
            rows = (("a", (), node("pair", num(1), template)), ("b", ("x",), node("pair", meta("x"), template)))
            self.assertEqual(1 + 2 + size(rows[0][2]), 4001 if is_large else 4000)
            if is_large:
                self.assertRaises(TooLarge, two_sources, rows)
            else:
                self.assertEqual(two_sources(rows), (node("a"), node("b", num(1)), rows[0][2]))

    def bulky(self, many):
        """A template of so many parts, that is not high."""
        if many < 3:
            return num(1) if many == 1 else node("s", num(1))
        inner = min(3, many - 1)
        sizes = [(many - 1) // inner + (1 if n < (many - 1) % inner else 0) for n in range(inner)]
        return node({2: "pair", 3: "three"}[inner], *[self.bulky(one) for one in sizes])

    def test_sources_of_many_parts(self):
        for deep, is_large in ((150, False), (199, False), (200, True)):
            rows = (("a", (), chain(deep + 1, num(1))), ("b", ("x",), node("s", meta("x"))))
            self.assertEqual(height(chain(deep + 1, num(1))), deep + 1)
            if is_large:
                self.assertRaises(TooLarge, two_sources, rows)
            else:
                self.assertEqual(two_sources(rows), (node("a"), chain(deep + 1, num(1), "b"), chain(deep + 1, num(1))))

    def growing(self, levels):
        """Rows for which a term is found that has twice as many parts with each level, and two templates that meet."""
        rows = [("e", (), node("end")), ("t0", (), node("h0", node("end")))]
        for at in range(1, levels + 1):
            rows.append((f"p{at}", ("y", "z"), node(f"pair{at}", node(f"h{at - 1}", meta("y")), node(f"h{at - 1}", meta("z")))))
            rows.append((f"t{at}", ("v", "w"), node(f"h{at}", node(f"pair{at}", meta("v"), meta("w")))))
        rows.append(("u", ("x",), node("u", node(f"h{levels}", meta("x")))))
        return tuple(rows) + (("k", ("x",), node("u", meta("x"))),)

    def test_found_terms_that_grow(self):
        first, second, translation = two_sources(self.growing(3))
        self.assertEqual(first, node("u", node("p3", *[node("p2", *[node("p1", node("e"), node("e"))] * 2)] * 2)))
        self.assertEqual((second[2][0][1], translation[2][0][1]), ("t3", "h3"))
        self.assertEqual(naive_pair(self.growing(3)), (first, second))
        for levels in (15, 18, 300):
            self.assertRaises(TooLarge, two_sources, self.growing(levels))


if __name__ == "__main__":
    unittest.main()
