"""passproven.symbolic: the promises F9 to F12."""

import itertools
import random
import unittest

from building import addr, chain, meta, name, node, num, told, unknown
from passproven import stepping
from passproven.asking import Ask, Undecided, answers
from passproven.constructors import is_value
from passproven.errors import PassError
from passproven.knowledge import Knowledge
from passproven.languages import Language, read_language
from passproven.symbolic import TooLong, step, step_cases
from passproven.terms import metavariables
from passproven.unknowns import integer, size, symbolic
from samples import CONSTRUCTORS, language, term

LANGUAGE = language()

# A language whose rules ask for everything: patterns of all kinds, comparisons, maps, and all actions.
ASKING = [
    ("small", "(add $x $y)", ["(less $x (plus $y 2))", "(less 0 $y)"], "", "(plus $x (minus $y 1))"),
    ("alike", "(add $x $y)", ["(equal $x $y)", "(not (integer $x))"], "", "(pair $x 1)"),
    ("entry", "(add $x $y)", ["(has $x $y)"], "", "(pair (get $x $y) (set $x 'a 5))"),
    ("both", "(add $x $y)", ["(has $x 'a)", "(has $y 'b)"], "(new (get $x 'a) $n)", "(pair $n (get $y 'b))"),
    ("nodes", "(add (pair $x 3) (s $y))", [], "(put 7)", "(add $y $x)"),
    ("turn", "(back (s 'a) $y)", ["(address $y)"], "(read $y $v)", "(pair $v $y)"),
    ("zero", "(back @0 $y)", [], "(write @0 (pair $y $y))", "(back $y @1)"),
    ("lazy", "(seq $x (add 1 $y))", [], "", "(back $y $x)"),
    ("five", "(seq $x 5)", ["(not (has $x 'k))"], "(put 5)", "{'a $x 'b 1}"),
    ("value", "(seq $x (box $y))", ["(less (plus $x 1) 4)"], "(put (plus $x 1))", "$y"),
    ("one", "(mid $x $y $z)", ["(not (equal $x $z))", "(not (less $z $x))"], "(new (pair $x $z) $a)", "(mid $a $y $x)"),
    ("step", "(quote (quote $x))", [], "", "(quote $x)"),
    ("first", "first", [], "(read @2 $v)", "(pair $v $v)"),
]

# Further constructors of an extension, of which no rule speaks.
CONSTANTS = [("known", 0, "value", ()), ("other", 0, "plain", ())]

TERMS = [
    "$x", "5", "(box $x)", "(pair $x $y)", "(swap $x $y)", "(add $x $y)", "(add $x $x)", "(add 1 $y)", "(add $x {'a 1 'c 2})", "(add {'a $y} $x)",
    "(add {'b 7 'c $x} $y)", "(back $x $y)", "(back (s $x) $y)", "(seq $x $y)", "(seq (add $x $y) $z)", "(mid $x $y $z)", "(mid $x loop $y)",
    "(pair (add $x 1) (add $y 2))", "(swap (seq 1 5) (seq $x 5))", "(quote $x)", "(quote (quote $x))", "(back @0 $x)", "(s (back (s $x) @3))", "first",
    "stop", "(seq $x (add $y $z))", "(add (pair $x $y) (s $z))", "(add 'a 'b)", "(s (s (seq 2 (box $x))))", "(add 3 0)", "(add @1 @1)",
]

STORE = tuple(num(10 * n) for n in range(8))


def asking_language(more=()):
    return Language(CONSTRUCTORS + list(more), read_language(CONSTRUCTORS, ASKING).rules)


def evaluated(part, terms):
    """The term for which a symbolic term stands where its unknowns stand for terms."""
    if part[0] == "sum":
        return num(part[2] + sum(multiple * terms[u][1] for u, multiple in part[1]))
    if part[0] == "unknown":
        return terms[part[1]]
    if part[0] == "map":
        entries = dict(terms[part[1]][1]) if part[1] is not None else {}
        for word, entry in part[2][::-1]:
            entries[evaluated(word, terms)[1]] = evaluated(entry, terms)
        return ("map", tuple(sorted(entries.items())))
    if part[0] == "node":
        return ("node", part[1], tuple(evaluated(inner, terms) for inner in part[2]))
    return part


def shape_of(tongue, found):
    """The answer to a question for a shape that is true of a term."""
    if found[0] != "node":
        return {"int": "integer", "name": "name", "addr": "address", "map": "map"}[found[0]]
    if found[1] in ("known", "other"):
        return "a value" if found[1] == "known" else "no value"
    _, _, kind, strict = tongue.constructor(found[1])
    if kind == "value":
        for place in strict:
            if not is_value(tongue, found[2][place]):
                return ("node", found[1], place)
    return ("node", found[1])


def true_answer(tongue, question, terms):
    head, one, *other = question
    if head == "value":
        return "yes" if is_value(tongue, terms[one]) else "no"
    if head == "shape":
        return shape_of(tongue, terms[one])
    if head == "order":
        left, right = evaluated(one, terms)[1], evaluated(other[0], terms)[1]
        return "less" if left < right else "equal" if left == right else "greater"
    if head == "same":
        return "yes" if evaluated(one, terms) == evaluated(other[0], terms) else "no"
    if head == "has":
        return "yes" if evaluated(other[0], terms)[1] in dict(terms[one][1]) else "no"
    return "yes"


def brought(question, answer, terms):
    """The terms for which the unknowns stand that an answer brings."""
    if question[0] == "shape" and isinstance(answer, tuple):
        return list(terms[question[1]][2])
    if question[0] == "get":
        return [dict(terms[question[1]][1])[evaluated(question[2], terms)[1]]]
    return []


class Symbolic(unittest.TestCase):
    def cases(self, tongue, text, values=()):
        return step_cases(tongue, term(text), list(values))

    def follow(self, tongue, rows, terms):
        """The only row at which the answers that are true of some terms end."""
        at, terms = 0, list(terms)
        while rows[at][2] == "ask":
            question = rows[at][3]
            true = true_answer(tongue, question, terms)
            following = [number for number, row in enumerate(rows) if row[0] == at and row[1] == true]
            self.assertEqual(len(following), 1, (question, true))
            terms += brought(question, true, terms)
            at = following[0]
        return at, terms

    def check_row(self, tongue, row, begun, terms, kept):
        """Compares what a row tells with the step of part C."""
        control = evaluated(begun, terms)
        made = stepping.step(tongue, (control, STORE, ()))
        if row[2] == "blocked":
            self.assertFalse(is_value(tongue, terms[row[3]]))
            self.assertEqual(stepping.redex(tongue, control)[1], stepping.redex(tongue, terms[row[3]])[1])
        elif row[2] in ("value", "stuck"):
            self.assertEqual((made, len(row)), ((row[2],), 3))
        else:
            head, rule, action, after = row[2:]
            terms = list(terms)
            store, out = self.behind(action, terms, kept)
            self.assertEqual((head, (evaluated(after, terms), store, out), rule), made[:3])

    def behind(self, action, terms, kept):
        """The store and the outputs behind an action; the kept unknown gets what it brings."""
        if action is None:
            return STORE, ()
        if action[0] == "new":
            terms[kept] = addr(len(STORE))
            return STORE + (evaluated(action[1], terms),), ()
        if action[0] == "put":
            return STORE, (evaluated(action[1], terms)[1],)
        at = evaluated(action[1], terms)[1]
        if action[0] == "read":
            terms[kept] = STORE[at]
            return STORE, ()
        return STORE[:at] + (evaluated(action[2], terms),) + STORE[at + 1:], ()


class Places(Symbolic):
    """F9"""

    def test_values(self):
        for text in ("5", "'a", "@3", "{'a 1}", "none", "(box $x)", "(pair 1 (s (box stop)))"):
            self.assertEqual(self.cases(LANGUAGE, text), [(None, None, "value")])

    def test_an_unknown(self):
        self.assertEqual(self.cases(LANGUAGE, "$x"), [(None, None, "ask", ("value", 0)), (0, "yes", "value"), (0, "no", "blocked", 0)])
        self.assertEqual(self.cases(LANGUAGE, "$x", ["x"]), [(None, None, "value")])

    def test_strict_arguments_in_the_order_of_evaluation(self):
        for text, first, second in (("(pair $x $y)", 0, 1), ("(swap $x $y)", 1, 0)):
            self.assertEqual(self.cases(LANGUAGE, text), [
                (None, None, "ask", ("value", first)), (0, "yes", "ask", ("value", second)), (1, "yes", "value"), (1, "no", "blocked", second),
                (0, "no", "blocked", first)])

    def test_the_redex(self):
        rows = self.cases(LANGUAGE, "(pair (seq $x $y) (seq 1 $z))")
        self.assertEqual(rows, [(None, None, "ask", ("value", 0)),
                                (0, "yes", "next", "seq", None, node("pair", unknown(1), node("seq", integer(1), unknown(2)))),
                                (0, "no", "blocked", 0)])
        rows = self.cases(LANGUAGE, "(swap (seq $x $y) (seq 1 $z))")
        self.assertEqual(rows, [(None, None, "next", "seq", None, node("swap", node("seq", unknown(0), unknown(1)), unknown(2)))])

    def test_nodes_that_unknowns_are(self):
        known, _ = Knowledge().fresh(3)
        inside, inner = known.with_worth(0, False).with_node(0, "seq", 2)
        after = ("next", "seq", None, node("pair", unknown(4), unknown(1)))
        self.assertEqual(step(LANGUAGE, inside.with_worth(inner[0], True), node("pair", unknown(0), unknown(1)), 2)[:4], after)
        with self.assertRaises(Ask) as caught:
            step(LANGUAGE, inside, node("pair", unknown(0), unknown(1)), 2)
        self.assertEqual(caught.exception.question, ("value", 3))
        self.assertEqual(step(LANGUAGE, inside.with_worth(3, False), unknown(0), 2), ("blocked", 3))
        whole, _ = known.with_worth(0, True).with_node(0, "pair", 2)
        self.assertEqual(step(LANGUAGE, whole, unknown(0), 2), ("value",))

    def test_nodes_that_unknowns_in_unknowns_are(self):
        known, _ = Knowledge().fresh(2)
        known, _ = known.with_worth(0, False).with_node(0, "pair", 2)
        known, _ = known.with_worth(2, True).with_worth(3, False).with_node(3, "s", 1)
        known, _ = known.with_worth(4, False).with_node(4, "seq", 2)
        after = node("swap", node("pair", unknown(2), node("s", unknown(6))), unknown(1))
        known = known.with_worth(5, True).with_worth(1, True)
        before = told(known)
        self.assertEqual(step(LANGUAGE, known, node("swap", unknown(0), unknown(1)), 1)[:4], ("next", "seq", None, after))
        self.assertEqual(told(known), before)

    def test_deep_terms(self):
        known, _ = Knowledge().fresh(1)
        deep = chain(400, node("seq", integer(1), unknown(0)))
        self.assertEqual(step(LANGUAGE, known, deep, 0)[3], chain(400, unknown(0)))
        self.assertEqual(step(LANGUAGE, known.with_worth(0, False), chain(400, unknown(0)), 0), ("blocked", 0))
        self.assertEqual(step(LANGUAGE, known.with_worth(0, True), chain(400, unknown(0)), 0), ("value",))

    def test_constants(self):
        known, _ = Knowledge().fresh(2)
        self.assertEqual(step(LANGUAGE, known.with_constant(0, True), unknown(0), 1), ("value",))
        self.assertEqual(step(LANGUAGE, known.with_constant(0, False), node("s", unknown(0)), 1), ("blocked", 0))
        self.assertEqual(step(LANGUAGE, known.with_constant(0, True), node("add", unknown(0), integer(1)), 1), ("stuck",))

    def test_through_templates(self):
        known, _ = Knowledge().fresh(2)
        known, inner = known.with_worth(0, False).with_node(0, "src", 2)
        seen = known.through({"src": (("a", "b"), node("seq", meta("b"), node("box", meta("a"))))})
        self.assertEqual(step(LANGUAGE, seen.with_worth(inner[1], True), node("s", unknown(0)), 1)[:4],
                         ("next", "seq", None, node("s", node("box", unknown(2)))))
        self.assertEqual(step(LANGUAGE, seen.with_worth(inner[1], False), node("s", unknown(0)), 1), ("blocked", 3))


class Rules(Symbolic):
    """F10"""

    def rows(self, pattern, conditions, text, values=("x", "y", "z")):
        tongue = read_language(CONSTRUCTORS, [("r", pattern, conditions, "", "0")])
        return step_cases(tongue, term(text), list(values))

    def questions(self, *arguments, **more):
        return [row[3] for row in self.rows(*arguments, **more) if row[2] == "ask"]

    def test_metavariables_match_everything(self):
        self.assertEqual(self.rows("(seq $x $y)", [], "(seq $x $y)", ["x"]), [(None, None, "next", "r", None, integer(0))])

    def test_patterns_ask_from_left_to_right(self):
        rows = self.rows("(add 1 'a)", [], "(add $x $y)")
        self.assertEqual(rows[0], (None, None, "ask", ("shape", 0)))
        self.assertEqual(rows[1], (0, "integer", "ask", ("order", ("sum", ((0, 1),), 0), integer(1))))
        self.assertEqual(rows[2:5], [(1, "less", "stuck"), (1, "equal", "ask", ("shape", 1)), (3, "integer", "stuck")])
        self.assertEqual(rows[5], (3, "name", "ask", ("same", unknown(1), name("a"))))
        self.assertEqual(rows[6:8], [(5, "yes", "next", "r", None, integer(0)), (5, "no", "stuck")])
        self.assertEqual([row[2] for row in rows if row[0] == 0], ["ask"] + ["stuck"] * (len([row for row in rows if row[0] == 0]) - 1))

    def test_a_node_before_its_arguments(self):
        questions = self.questions("(add (pair 1 $a) (s @1))", [], "(add $x $y)")
        self.assertEqual(questions, [("shape", 0), ("shape", 3), ("order", ("sum", ((3, 1),), 0), integer(1)), ("shape", 1), ("shape", 5),
                                     ("same", unknown(5), addr(1))])

    def test_places_that_are_not_strict(self):
        rows = self.rows("(quote 5)", [], "(quote $x)", [])
        plain = [("node", row[0]) for row in CONSTRUCTORS if row[2] == "plain"]
        self.assertEqual([row[1] for row in rows if row[0] == 0][-len(plain) - 2:], plain + ["a value", "no value"])
        self.assertEqual(len([row for row in rows if row[2] == "next"]), 1)

    def test_conditions_up_to_the_first_that_is_false(self):
        questions = self.questions("(add $x $y)", ["(integer $x)", "(name $y)"], "(add $x $y)")
        self.assertEqual(questions, [("shape", 0), ("shape", 1)])
        rows = self.rows("(add $x $y)", ["(not (integer $x))", "(name $y)"], "(add $x $y)")
        self.assertEqual(rows[1], (0, "integer", "stuck"))
        self.assertEqual(rows[2], (0, "name", "ask", ("shape", 1)))

    def test_equal_and_less_look_at_both_operands(self):
        for head in ("equal", "less"):
            rows = self.rows("(add $x $y)", [f"({head} $x $y)"], "(add $x $y)")
            asked = [row[3] for row in rows if row[0] == 0]
            self.assertEqual(asked, [("shape", 1)] * len(asked))
            compared = [row for row in rows if row[2] == "ask" and row[3][0] in ("order", "same")]
            expected = [("integer", ("order", ("sum", ((0, 1),), 0), ("sum", ((1, 1),), 0)))]
            if head == "equal":
                expected += [("name", ("same", unknown(0), unknown(1))), ("address", ("same", unknown(0), unknown(1)))]
            self.assertEqual([(row[1], row[3]) for row in compared], expected)

    def test_sums(self):
        rows = self.rows("(add $x $y)", ["(less (plus $x 2) $y)"], "(add $x $y)")
        compared = [row[3] for row in rows if row[2] == "ask" and row[3][0] != "shape"]
        self.assertEqual(compared, [("order", ("sum", ((0, 1),), 0), ("sum", ((1, 1),), -2))])
        rows = self.rows("(add $x $y)", ["(equal (plus $x 2) 5)"], "(add $x $y)")
        self.assertEqual([row[3] for row in rows if row[2] == "ask"], [("shape", 0), ("order", ("sum", ((0, 1),), 0), integer(3))])
        self.assertEqual(rows[2][1], "less")

    def test_has(self):
        rows = self.rows("(add $x $y)", ["(has $x $y)"], "(add $x $y)")
        asked = [row for row in rows if row[2] == "ask"]
        self.assertEqual([row[3] for row in asked], [("shape", 0), ("shape", 1), ("has", 0, unknown(1)), ("get", 0, unknown(1))])
        self.assertEqual([row[1] for row in asked], [None, "map", "name", "yes"])
        last = rows.index(asked[-1])
        self.assertEqual(rows[last + 1:last + 3], [(last, "yes", "next", "r", None, integer(0)), (rows.index(asked[-2]), "no", "stuck")])

    def test_what_was_got_is_not_asked_again(self):
        rows = self.rows("(add $x $y)", ["(has $x 'a)", "(has $x 'a)", "(has $x 'b)"], "(add $x $y)")
        self.assertEqual([row[3] for row in rows if row[2] == "ask"], [("shape", 0), ("has", 0, name("a")), ("get", 0, name("a")), ("has", 0, name("b")),
                                                                      ("get", 0, name("b"))])

    def test_the_rules_are_tried_in_order(self):
        tongue = read_language(CONSTRUCTORS, [("one", "(out $x)", ["(less $x 0)"], "", "1"), ("other", "(out $x)", ["(less $x 1)"], "", "2"),
                                              ("third", "(out $x)", ["(less $x 9)"], "", "3"), ("last", "(out $x)", [], "", "4")])
        rows = step_cases(tongue, term("(out $x)"), ["x"])
        ends = [(row[1], row[3]) for row in rows if row[2] == "next"]
        self.assertEqual(ends[:7], [("less", "one"), ("equal", "other"), ("equal", "third"), ("less", "third"), ("equal", "last"), ("greater", "last"),
                                    ("name", "last")])
        asked = [row[3] for row in rows if row[2] == "ask"][1:]
        self.assertEqual(asked, [("order", ("sum", ((0, 1),), 0), integer(number)) for number in (0, 1, 9)])

    def test_undecided(self):
        tongue = read_language(CONSTRUCTORS, [("one", "(out $x)", ["(less $x 0)"], "", "1")])
        known, _ = Knowledge().fresh(3)
        known = known.with_sort(0, "integer").with_sort(1, "integer")
        self.assertRaises(Undecided, step, tongue, known, node("out", ("sum", ((0, 1), (1, 1)), 0)), 2)
        self.assertEqual(step(tongue, known, node("out", ("sum", (), -5)), 2)[:2], ("next", "one"))
        self.assertTrue(issubclass(Undecided, PassError))


class Results(Symbolic):
    """F11"""

    def last(self, rule, text, values):
        """The last of the rows with a step, for a language of one rule."""
        rows = step_cases(read_language(CONSTRUCTORS, [("r",) + rule]), term(text), list(values))
        return [row for row in rows if row[2] == "next"][-1]

    def test_sums(self):
        row = self.last(("(add $x $y)", ["(integer $x)", "(integer $y)"], "", "(pair (plus $x (plus $x 3)) (minus (minus $x $y) $x))"), "(add $x $y)", "xy")
        self.assertEqual(row[5], node("pair", ("sum", ((0, 2),), 3), ("sum", ((1, -1),), 0)))

    def test_maps(self):
        rule = ("(add $x $y)", ["(has $x $y)"], "", "(pair (set (set $x 'a 1) $y 2) {'c $x 'b (get $x $y)})")
        row = self.last(rule, "(add $x $y)", "xy")
        self.assertEqual(row[5][2][0], ("map", 0, ((unknown(1), integer(2)), (name("a"), integer(1)))))
        self.assertEqual(row[5][2][1], ("map", None, ((name("b"), unknown(3)), (name("c"), unknown(0)))))
        row = self.last(rule, "(add {'k $z} 'k)", "z")
        self.assertEqual(row[5][2][0], ("map", None, ((name("k"), integer(2)), (name("a"), integer(1)), (name("k"), unknown(0)))))
        self.assertEqual(row[5][2][1][2][0], (name("b"), unknown(0)))

    def test_actions(self):
        row = self.last(("(out $x)", [], "(new (pair $x 1) $n)", "(swap $n $x)"), "(pair 1 (out $x))", "x")
        self.assertEqual(row[4:], (("new", node("pair", unknown(0), integer(1))), node("pair", integer(1), node("swap", unknown(1), unknown(0)))))
        row = self.last(("(out $x)", ["(address $x)"], "(read $x $n)", "(swap $n $x)"), "(out $x)", "x")
        self.assertEqual(row[4:], (("read", unknown(0)), node("swap", unknown(1), unknown(0))))
        row = self.last(("(out $x)", [], "(write @4 $x)", "5"), "(out $x)", "x")
        self.assertEqual(row[4:], (("write", addr(4), unknown(0)), integer(5)))
        row = self.last(("(out $x)", ["(integer $x)"], "(put (plus $x 1))", "$x"), "(out $x)", "x")
        self.assertEqual(row[4], ("put", ("sum", ((0, 1),), 1)))
        row = self.last(("(out $x)", ["(integer $x)"], "(put $x)", "none"), "(out $x)", "x")
        self.assertEqual(row[4:], (("put", ("sum", ((0, 1),), 0)), node("none")))

    def test_what_an_action_brings(self):
        known, _ = Knowledge().fresh(5)
        known = known.with_sort(0, "address")
        before = told(known)
        tongue = read_language(CONSTRUCTORS, [("in", "(cell $x)", [], "(new $x $n)", "$n"), ("load", "(load $x)", ["(address $x)"], "(read $x $n)", "$n")])
        head, rule, action, after, more = step(tongue, known, node("cell", integer(5)), 4)
        self.assertEqual((head, rule, action, after, more.sorts[4]), ("next", "in", ("new", integer(5)), unknown(4), "address"))
        head, rule, action, after, more = step(tongue, known, node("load", unknown(0)), 3)
        self.assertEqual((head, rule, action, after, more.worths[3]), ("next", "load", ("read", unknown(0)), unknown(3), True))
        self.assertNotIn(3, more.sorts)
        self.assertEqual(told(known), before)

    def test_the_knowledge_may_be_changed(self):
        known, _ = Knowledge().fresh(2)
        known = known.with_worth(0, True)
        more = step(LANGUAGE, known, node("seq", unknown(0), integer(1)), 1)[4]
        self.assertEqual(told(more), told(known))
        more.worths.clear()
        self.assertEqual(known.worths, {0: True})

    def test_stuck(self):
        self.assertEqual(self.cases(LANGUAGE, "(pair 1 (add {} $x))", ["x"])[-1][2:], ("stuck",))
        self.assertEqual(self.cases(LANGUAGE, "stop"), [(None, None, "stuck")])
        self.assertEqual(self.cases(LANGUAGE, "first"), [(None, None, "next", "first", ("read", addr(0)), unknown(0))])


class Sizes(Symbolic):
    """The bounds of step_cases"""

    def rows(self, more, action, result="(pair $x $x)"):
        """A step that makes two terms of one of 392 terms, in nodes that give so many terms more."""
        tongue = read_language(CONSTRUCTORS, [("r", "(twice $x)", [], action, result)])
        wide = ("map", tuple((f"w{n:03}", num(0)) for n in range(195)))
        return step_cases(tongue, chain(more, node("twice", node("box", wide))), [])

    def test_terms(self):
        self.assertEqual(size(symbolic(("map", tuple((f"w{n:03}", num(0)) for n in range(195))), {})), 391)
        for more, is_too_long in ((15, False), (16, True)):
            self.assertEqual(more + 2 * 392 + 1, 801 if is_too_long else 800)
            if is_too_long:
                self.assertRaises(TooLong, self.rows, more, "")
            else:
                [row] = self.rows(more, "")
                self.assertEqual(size(row[5]), 800)

    def test_terms_in_cells(self):
        for action in ("(new $x $n)", "(write @0 $x)"):
            [row] = self.rows(16, action, "$x")
            self.assertEqual(size(row[5]) + size(row[4][-1]), 800)
            self.assertRaises(TooLong, self.rows, 17, action, "$x")
        self.assertEqual(len(self.rows(60, "(put 1)", "$x")), 1)

    def test_rows(self):
        self.assertTrue(issubclass(TooLong, PassError))
        # Two values of 44 shapes each: 1 + 44 + 44 * 44 rows, and 3 + 2 + 2 to compare integers, names and addresses.
        orders = [[f"(less $x {10 * n})"] for n in range(4)]
        names = [["(equal $x 'a)"], ["(equal $x 'b)"]]
        self.assertEqual(len(self.many_rows([[]])), 1988)
        self.assertEqual(len(self.many_rows(orders)), 2000)
        self.assertEqual(len(self.many_rows(orders[:3] + names[:1])), 1999)
        self.assertRaises(TooLong, self.many_rows, orders[:3] + names)

    def many_rows(self, conditions):
        constructors = [("f", 2, "plain", [0, 1])] + [(f"c{n}", 0, "value", []) for n in range(39)]
        rules = [(f"r{n}", "(f $x $y)", ["(equal $x $y)"] + more, "", "0") for n, more in enumerate(conditions)]
        return step_cases(read_language(constructors, rules), node("f", meta("x"), meta("y")), ["x", "y"])


class Rows(Symbolic):
    """F12, and the rows of step_cases"""

    def values_of(self, text):
        words = metavariables(term(text))
        for many in range(len(words) + 1):
            yield from itertools.combinations(words, many)

    def drawn(self, dice, depth, must_be_value):
        pick = dice.random()
        if pick < 0.3:
            return num(dice.randint(-2, 5))
        if pick < 0.5:
            return dice.choice((name("a"), name("b"), name("k"), addr(0), addr(1), addr(2)))
        if pick < 0.65 or depth == 0:
            return ("map", tuple((word, self.drawn(dice, 0, True)) for word in "abk" if depth and dice.random() < 0.5))
        rows = [row for row in CONSTRUCTORS + CONSTANTS if row[2] == "value" or not must_be_value]
        row = dice.choice(rows)
        return node(row[0], *[self.drawn(dice, depth - 1, must_be_value and place in row[3]) for place in range(row[1])])

    def begun(self, text, values):
        words = metavariables(term(text))
        known, _ = Knowledge().fresh(len(words) + 1)
        for u, word in enumerate(words):
            known = known.with_worth(u, True) if word in values else known
        return words, symbolic(term(text), {word: unknown(u) for u, word in enumerate(words)}), known

    def test_one_path_is_true_of_each_term(self):
        small, large = asking_language(), asking_language(CONSTANTS)
        dice = random.Random(3)
        for text in TERMS:
            for values in self.values_of(text):
                words, begun, _ = self.begun(text, values)
                rows = step_cases(small, term(text), list(values))
                for _ in range(25):
                    terms = [self.drawn(dice, 2, word in values) for word in words] + [None]
                    at, found = self.follow(large, rows, terms)
                    self.check_row(large, rows[at], begun, found, len(words))

    def test_the_order_of_rows(self):
        for text in TERMS:
            rows = step_cases(asking_language(), term(text), [])
            self.assertEqual(rows[0][:2], (None, None))
            for number, row in enumerate(rows[1:], 1):
                self.assertEqual(rows[row[0]][2], "ask")
                # Behind an asking row stands its first answer, behind any other one the next answer of a row around it.
                if rows[number - 1][2] == "ask":
                    self.assertEqual(row[0], number - 1)
                else:
                    around = number - 1
                    while around is not None and around != row[0]:
                        around = rows[around][0]
                    self.assertEqual(around, row[0])

    def test_for_each_path_there_is_a_term(self):
        small, large = asking_language(), asking_language(CONSTANTS)
        for text in TERMS:
            words, begun, known = self.begun(text, ())
            rows = step_cases(small, term(text), [])
            waiting = [(0, known)]
            while waiting:
                number, present = waiting.pop()
                following = [at for at, row in enumerate(rows) if row[0] == number]
                if rows[number][2] == "ask":
                    told_by = answers(small, present, rows[number][3])
                    self.assertEqual([rows[at][1] for at in following], [answer for answer, _ in told_by])
                    self.assertTrue(len(following) > 1 or rows[number][3][0] == "get")
                    waiting += [(at, more) for at, (_, more) in zip(following, told_by)]
                else:
                    self.assertEqual(following, [])
                    terms = [self.instance(present, u) for u in range(len(words))] + [None]
                    at, found = self.follow(large, rows, terms)
                    self.assertEqual(at, number)
                    self.check_row(large, rows[at], begun, found, len(words))

    def instance(self, known, u):
        sort = known.sorts.get(u)
        if isinstance(sort, tuple):
            return node(sort[1], *[self.instance(known, inner) for inner in sort[2]])
        if sort in (None, "constant"):
            return node("known" if known.worths.get(u) else "other")
        solution = known.solution()
        if sort != "map":
            return solution[f"u{u}"]
        entries = dict(solution[f"u{u}"][1])
        for word, inner in known.got.get(u, []):
            entries[word[1] if word[0] == "name" else solution[f"u{word[1]}"][1]] = self.instance(known, inner)
        return ("map", tuple(sorted(entries.items())))

    def test_the_numbers_of_unknowns(self):
        rows = self.cases(LANGUAGE, "(pair $b $a)")
        self.assertEqual(rows[0][3], ("value", 0))
        self.assertEqual(rows[3], (1, "no", "blocked", 1))
        rows = self.cases(LANGUAGE, "(cell $b)", ["b"])
        self.assertEqual(rows, [(None, None, "next", "cell", ("new", unknown(0)), node("pair", unknown(1), unknown(0)))])
        rows = self.cases(asking_language(), "(back (s $x) @1)", ["x"])
        self.assertIn(("yes", "next", "turn", ("read", addr(1)), node("pair", unknown(1), addr(1))), [row[1:] for row in rows])

    def test_maps_in_terms(self):
        [row] = self.cases(LANGUAGE, "(seq 1 {'b $x 'a $y})")
        self.assertEqual(row[5], ("map", None, ((name("a"), unknown(0)), (name("b"), unknown(1)))))

    def test_same_question_same_answer(self):
        tongue = asking_language()
        for text in TERMS:
            asked, values = term(text), ["x"]
            first = step_cases(tongue, asked, values)
            again = list(first)
            first.clear()
            self.assertEqual(step_cases(tongue, asked, values), again)
            self.assertEqual((asked, values), (term(text), ["x"]))


if __name__ == "__main__":
    unittest.main()
