"""passproven.texts: the promises A4 to A6."""

import random
import unittest

from building import addr, chain, mapping, meta, name, node, num
from passproven.errors import BadTerm, TextError, TooDeep, TooLong
from passproven.terms import height
from passproven.texts import read_term, write_term

SIGNATURE = {"num": 1, "add": 2, "none": 0}
ONES = {"s": 1, "p": 2, "z": 0}


def error_of(signature, text):
    """The class and the position of the error that a text raises, or None."""
    try:
        read_term(signature, text)
    except TextError as error:
        return (error.__class__, error.position)
    return None


class Reading(unittest.TestCase):
    """A4"""

    def read(self, text):
        return read_term(SIGNATURE, text)

    def test_example(self):
        term = node("add", node("num", num(1)), mapping(a=node("none"), b=num(2)))
        self.assertEqual(self.read("(add( num 1 ) {'b 2 'a none})"), term)
        self.assertEqual(self.read("(add (num 1) {'a none 'b 2})"), term)

    def test_leaves(self):
        self.assertEqual(self.read("5"), num(5))
        self.assertEqual(self.read("0"), num(0))
        self.assertEqual(self.read("-5"), num(-5))
        self.assertEqual(self.read("10"), num(10))
        self.assertEqual(self.read("'k"), name("k"))
        self.assertEqual(self.read("'none"), name("none"))
        self.assertEqual(self.read("$x"), meta("x"))
        self.assertEqual(self.read("$add"), meta("add"))
        self.assertEqual(self.read("@0"), addr(0))
        self.assertEqual(self.read("@17"), addr(17))

    def test_longest_tokens(self):
        self.assertEqual(self.read("9" * 15), num(10 ** 15 - 1))
        self.assertEqual(self.read("-" + "9" * 15), num(1 - 10 ** 15))
        self.assertEqual(self.read("@" + "9" * 9), addr(10 ** 9 - 1))
        self.assertEqual(self.read("'" + "k" * 12), name("k" * 12))
        self.assertEqual(self.read("$" + "k_1" * 4), meta("k_1" * 4))
        self.assertEqual(read_term({"c" * 12: 0}, "c" * 12), node("c" * 12))

    def test_without_arguments(self):
        self.assertEqual(self.read("none"), node("none"))
        self.assertEqual(self.read("(none)"), node("none"))
        self.assertEqual(self.read(" ( none ) "), node("none"))
        self.assertEqual(self.read("(num none)"), node("num", node("none")))
        self.assertEqual(self.read("(num(none))"), node("num", node("none")))

    def test_eight_arguments(self):
        text = "(c 1 2 3 4 5 6 7 8)"
        self.assertEqual(read_term({"c": 8}, text), node("c", *[num(n) for n in range(1, 9)]))

    def test_separators(self):
        self.assertEqual(self.read(" \n\n 5\n "), num(5))
        self.assertEqual(self.read("(\nadd\n1\n2\n)"), node("add", num(1), num(2)))

    def test_tokens_without_separators(self):
        self.assertEqual(self.read("(add 1-2)"), node("add", num(1), num(-2)))
        self.assertEqual(self.read("(add'a$x)"), node("add", name("a"), meta("x")))
        self.assertEqual(self.read("(add@1@2)"), node("add", addr(1), addr(2)))
        self.assertEqual(self.read("(add 1none)"), node("add", num(1), node("none")))
        self.assertEqual(self.read("(add(num 1)(none))"), node("add", node("num", num(1)), node("none")))
        self.assertEqual(self.read("{'a{}'b-1}"), mapping(a=("map", ()), b=num(-1)))
        self.assertEqual(self.read("(add-1'a)"), node("add", num(-1), name("a")))

    def test_longest_token_is_taken(self):
        signature = {"a": 1, "ab": 0, "a1": 0}
        self.assertEqual(read_term(signature, "ab"), node("ab"))
        self.assertEqual(read_term(signature, "(a ab)"), node("a", node("ab")))
        self.assertEqual(error_of(signature, "(aab)"), (BadTerm, 1))
        self.assertEqual(error_of(signature, "(a12)"), (BadTerm, 1))
        self.assertEqual(read_term(signature, "a1"), node("a1"))

    def test_maps(self):
        self.assertEqual(self.read("{}"), ("map", ()))
        self.assertEqual(self.read("{ }"), ("map", ()))
        self.assertEqual(self.read("{'b 1 'c 2 'a 3 'aa 4 'a_ 5 'a0 6}"), ("map", (
            ("a", num(3)), ("a0", num(6)), ("a_", num(5)), ("aa", num(4)), ("b", num(1)), ("c", num(2)),
        )))
        self.assertEqual(self.read("{'a 'a}"), mapping(a=name("a")))
        self.assertEqual(self.read("{'a {'a 1}}"), mapping(a=mapping(a=num(1))))
        self.assertEqual(self.read("{'x $x 'y (num none)}"), mapping(x=meta("x"), y=node("num", node("none"))))

    def test_constructors_with_the_names_of_forms_are_nodes(self):
        signature = {"get": 2, "plus": 2}
        self.assertEqual(read_term(signature, "(get $m (plus 1 2))"), node("get", meta("m"), node("plus", num(1), num(2))))

    def test_without_constructors(self):
        self.assertEqual(read_term({}, "{'a 1}"), mapping(a=num(1)))
        self.assertEqual(error_of({}, "a"), (BadTerm, 0))

    def test_signature_stays(self):
        signature = {"num": 1, "none": 0}
        read_term(signature, "(num none)")
        error_of(signature, "(num (other))")
        self.assertEqual(signature, {"num": 1, "none": 0})


class Errors(unittest.TestCase):
    """A5"""

    def check(self, text, position, signature=SIGNATURE):
        self.assertEqual(error_of(signature, text), (BadTerm, position), text)

    def test_examples(self):
        self.check("(num 1 2)", 7)
        self.check("(num)", 4)
        self.check("(num 01)", 5)
        self.check("( )", 2)
        self.check("1 2", 2)
        self.check("", 0)

    def test_end_of_text(self):
        self.check("  ", 2)
        self.check("(", 1)
        self.check("( ", 2)
        self.check("(num", 4)
        self.check("(num ", 5)
        self.check("(add 1", 6)
        self.check("(add 1 2", 8)
        self.check("(none", 5)
        self.check("{", 1)
        self.check("{'a", 3)
        self.check("{'a 1 ", 6)
        self.check("{'a {}", 6)

    def test_numbers(self):
        for piece in ("00", "01", "-0", "-00", "-01", "-", "--1", "+1", "@", "@01", "@00", "@-1", "@a", "@ 1", "- 1",
                      "1" * 16, "-" + "1" * 16, "@" + "1" * 10, "0" * 16, "@" + "0" * 10):
            self.check(piece, 0)
            self.check("(num " + piece + ")", 5)
            self.check("(none " + piece + ")", 6)

    def test_digits_of_other_scripts(self):
        for piece in ("\u0661", "1\u0661", "@\u0661", "\u00b2"):
            self.assertIsNotNone(error_of(SIGNATURE, piece))
        self.check("1\u0661", 1)
        self.check("\u0661", 0)

    def test_words(self):
        for piece in ("'", "$", "'1", "$1", "'_a", "$_a", "'A", "$A", "' a", "$ a", "'" + "a" * 13, "$" + "a" * 13,
                      "''a", "$$a", "'$a", "'1a", "'@1"):
            self.check(piece, 0)
            self.check("(num " + piece + ")", 5)
        self.check("a" * 13, 0, {"a" * 12: 0, "a": 0})
        self.check("(" + "a" * 13 + ")", 1, {"a" * 12: 0, "a": 0})

    def test_other_characters(self):
        for piece in ("_", "_a", "A", "Num", "\t", "\r", "\u00a0", "\u00e4", "\"a\"", "[", "]", ",", ".", ";", "#", "\\"):
            self.check(piece, 0)
            self.check("(num " + piece + "1)", 5)
            self.check("(num 1" + piece + ")", 6)
        self.check("noneA", 4)
        self.check("none\t", 4)
        self.check("'aB", 2)
        self.check("1_", 1)

    def test_unknown_constructors(self):
        self.check("nothing", 0)
        self.check("(nothing 1)", 1)
        self.check("( nothing 1)", 2)
        self.check("(num nothing)", 5)
        self.check("(num (nothing))", 6)

    def test_behind_an_open_parenthesis_stands_a_constructor(self):
        for piece in ("1", "'a", "$x", "@1", "(", "{", "}", ")", "(none)", "-", "?"):
            self.check("( " + piece, 2)

    def test_constructors_with_arguments_need_parentheses(self):
        self.check("num", 0)
        self.check("num 1", 0)
        self.check("(add 1 num)", 7)
        self.check("{'a add}", 4)

    def test_too_few_and_too_many_arguments(self):
        self.check("(none 1)", 6)
        self.check("(add 1)", 6)
        self.check("(add 1 2 3)", 9)
        self.check("(add 1 2 none)", 9)
        self.check("(add 1 2 {})", 9)
        self.check("(add 1 2 (num 1))", 9)
        self.check("(add 1 2 }", 9)
        self.check("(num })", 5)

    def test_maps(self):
        self.check("{1}", 1)
        self.check("{$x 1}", 1)
        self.check("{none 1}", 1)
        self.check("{)", 1)
        self.check("{{}", 1)
        self.check("{'a}", 3)
        self.check("{'a 1 2}", 6)
        self.check("{'a 1 none}", 6)
        self.check("{'a 1 )", 6)
        self.check("{'a 1 'a 2}", 6)
        self.check("{'a 1 'b 2 'a 3}", 11)
        self.check("{'a 1 'b {'a 1 'b 2 'a 3}}", 20)
        self.check("{'a 1 'a", 6)

    def test_behind_the_term(self):
        for piece in ("1", "'a", "$x", "@1", "none", "(none)", "{}", ")", "}", "?", "01"):
            self.check("none " + piece, 5)
            self.check("(num 1) " + piece, 8)
            self.check("{} " + piece, 3)

    def test_first_error_counts(self):
        self.check("(num ? 01", 5)
        self.check("(num 1 ? (", 7)
        self.check(") ?", 0)
        self.check("(num ] (nothing)", 5)

    def test_length(self):
        self.assertEqual(read_term(SIGNATURE, " " * 3999 + "1"), num(1))
        self.assertEqual(read_term(SIGNATURE, "1" + "\n" * 3999), num(1))
        self.check(" " * 4000, 4000)
        for text in (" " * 4000 + "1", "?" * 4001, "1" + " " * 4000, "(" * 5000):
            self.assertRaises(TooLong, read_term, SIGNATURE, text)

    def test_depth_of_nodes(self):
        deep = "(s " * 60 + "1" + ")" * 60
        self.assertEqual(read_term(ONES, deep), chain(60, num(1)))
        self.assertEqual(error_of(ONES, "(s " * 61 + "1" + ")" * 61), (TooDeep, 180))
        self.assertEqual(error_of(ONES, "(s " * 61), (TooDeep, 180))
        self.assertEqual(error_of(ONES, "(s " * 60 + " ( s"), (TooDeep, 181))
        self.assertEqual(error_of(ONES, "(s " * 60 + "(z)"), (TooDeep, 180))
        self.assertEqual(error_of(ONES, "(s " * 60 + "(p 1"), (TooDeep, 180))

    def test_at_the_depth_only_signs_are_too_deep(self):
        for piece, term in (("z", node("z")), ("$x", meta("x")), ("'a", name("a")), ("@1", addr(1))):
            self.assertEqual(read_term(ONES, "(s " * 60 + piece + ")" * 60), chain(60, term))

    def test_too_deep_only_before_a_constructor(self):
        for piece in ("", ")", "1", "?", "unknown", "(s 1)", "{}", "a" * 13, "'s", "$s"):
            self.check("(s " * 60 + "(" + piece, 181, ONES)
            self.check("(s " * 60 + "( " + piece, 182, ONES)

    def test_depth_of_maps(self):
        deep = "{'a " * 60 + "1" + "}" * 60
        self.assertEqual(height(read_term(ONES, deep)), 60)
        for piece in ("{}", "{", "{'a 1}", "{?", "{1", "{)"):
            self.assertEqual(error_of(ONES, "{'a " * 60 + piece), (TooDeep, 240))
            self.assertEqual(error_of(ONES, "(s " * 60 + piece), (TooDeep, 180))
        self.assertEqual(error_of(ONES, "{'a (s " * 30 + "(s"), (TooDeep, 210))
        self.assertEqual(error_of(ONES, "{'a (s " * 30 + "1"), (BadTerm, 211))

    def test_closed_signs_do_not_count(self):
        one = "(s " * 59 + "1" + ")" * 59
        self.assertEqual(height(read_term(ONES, "(p " + one + one + ")")), 60)
        two = "{'a " * 59 + "1" + "}" * 59
        self.assertEqual(height(read_term(ONES, "(p " + two + one + ")")), 60)
        three = "(s " * 60 + "1" + ")" * 60
        self.assertEqual(error_of(ONES, "(p " + one + three + ")"), (TooDeep, 3 + len(one) + 177))

    def test_errors_before_the_depth(self):
        self.check("(s " * 30 + "? " + "(s " * 60, 90, ONES)
        self.assertEqual(error_of(ONES, "(s " * 61 + "?"), (TooDeep, 180))


class Prefixes(unittest.TestCase):
    """A5: the first error, against a second way to find it."""

    PIECES = ("(", ")", "{", "}", "1", "-7", "@3", "'a", "'b", "$x", "s", "p", "z", "q", "?", "00")

    def position_of_error(self, pieces):
        """The index of the first piece that is wrong, by a list of what is still expected; None for no error."""
        expected = ["term"]
        for at, piece in enumerate(pieces + ["end"]):
            wanted = expected.pop() if expected else "end"
            if wanted == "term" and piece in ("1", "-7", "@3", "'a", "'b", "$x", "z"):
                continue
            if wanted == "term" and piece == "(":
                expected.append("constructor")
            elif wanted == "constructor" and piece in ONES:
                expected.append(")")
                expected.extend(["term"] * ONES[piece])
            elif wanted == "term" and piece == "{":
                expected.append({})
            elif isinstance(wanted, dict) and piece in ("'a", "'b") and piece not in wanted:
                expected.extend([{**wanted, piece: True}, "term"])
            elif not (isinstance(wanted, dict) and piece == "}") and wanted != piece:
                return at
        return None

    def test_random_pieces(self):
        source = random.Random(5)
        right = 0
        for _ in range(6000):
            pieces = [source.choice(self.PIECES) for _ in range(source.randrange(8))]
            starts, text = [], ""
            for piece in pieces:
                starts.append(len(text))
                text += piece + source.choice((" ", "\n", "  "))
            at = self.position_of_error(pieces)
            wanted = None if at is None else (BadTerm, (starts + [len(text)])[at])
            self.assertEqual(error_of(ONES, text), wanted, text)
            right += wanted is None
        self.assertGreater(right, 50)


class Writing(unittest.TestCase):
    """A6"""

    def test_example(self):
        term = node("add", node("num", num(1)), mapping(a=node("none"), b=num(2)))
        self.assertEqual(write_term(term), "(add (num 1) {'a none 'b 2})")

    def test_leaves(self):
        for term, text in ((num(0), "0"), (num(-12), "-12"), (name("ab"), "'ab"), (addr(3), "@3"), (addr(0), "@0"),
                           (meta("x_1"), "$x_1"), (node("none"), "none"), (("map", ()), "{}")):
            self.assertEqual(write_term(term), text)

    def test_long_numbers(self):
        self.assertEqual(write_term(num(10 ** 70 + 5)), "1" + "0" * 69 + "5")
        self.assertEqual(write_term(num(-(10 ** 70))), "-1" + "0" * 70)
        self.assertEqual(write_term(num(-(10 ** 128) - 7)), "-1" + "0" * 127 + "7")
        self.assertEqual(write_term(addr(10 ** 20)), "@1" + "0" * 20)

    def test_nodes_and_maps(self):
        self.assertEqual(write_term(node("add", meta("x"), node("none"))), "(add $x none)")
        self.assertEqual(write_term(node("num", node("num", num(1)))), "(num (num 1))")
        self.assertEqual(write_term(mapping(a=mapping(b=num(1)))), "{'a {'b 1}}")
        self.assertEqual(write_term(mapping(a=num(1), b=name("c"), d=("map", ()))), "{'a 1 'b 'c 'd {}}")
        self.assertEqual(write_term(node("three", num(1), ("map", ()), addr(2))), "(three 1 {} @2)")

    def test_forms(self):
        self.assertEqual(write_term(("get", meta("m"), name("k"))), "(get $m 'k)")
        self.assertEqual(write_term(("set", meta("m"), name("k"), num(1))), "(set $m 'k 1)")
        self.assertEqual(write_term(("plus", num(1), ("minus", meta("x"), num(-2)))), "(plus 1 (minus $x -2))")
        self.assertEqual(write_term(node("num", ("plus", num(1), num(2)))), "(num (plus 1 2))")

    def test_high_terms(self):
        self.assertEqual(write_term(chain(200, num(1))), "(s " * 200 + "1" + ")" * 200)

    def test_reading_gives_the_term(self):
        source = random.Random(6)
        for _ in range(300):
            term = random_term(source, 5)
            text = write_term(term)
            self.assertEqual(read_term(ONES, text), term)
            self.assertNotIn("  ", text)
            self.assertNotIn("\n", text)
        self.assertEqual(read_term(ONES, write_term(chain(60))), chain(60))
        self.assertEqual(error_of(ONES, write_term(chain(61))), (TooDeep, 180))
        self.assertEqual(read_term(ONES, write_term(num(1 - 10 ** 15))), num(1 - 10 ** 15))
        self.assertEqual(error_of(ONES, write_term(num(10 ** 15))), (BadTerm, 0))


def random_term(source, levels):
    kind = source.randrange(8) if levels else source.randrange(5)
    if kind < 4:
        return source.choice((num(source.randrange(-20, 20)), name("k"), addr(source.randrange(30)), meta("x")))
    if kind == 4:
        return source.choice((node("z"), ("map", ())))
    if kind == 5:
        return node("s", random_term(source, levels - 1))
    if kind == 6:
        return node("p", random_term(source, levels - 1), random_term(source, levels - 1))
    return mapping(**{source.choice("abcdef"): random_term(source, levels - 1) for _ in range(source.randrange(4))})


if __name__ == "__main__":
    unittest.main()
