"""A language that tests run, and short ways to write its terms."""

from passproven.languages import read_language
from passproven.texts import read_term

CONSTRUCTORS = [
    ("pair", 2, "value", [0, 1]), ("swap", 2, "value", [1, 0]), ("box", 1, "value", []), ("none", 0, "value", []),
    ("s", 1, "value", [0]), ("add", 2, "plain", [0, 1]), ("back", 2, "plain", [1, 0]), ("mid", 3, "plain", [2, 0]),
    ("seq", 2, "plain", [0]), ("cell", 1, "plain", [0]), ("load", 1, "plain", [0]), ("keep", 2, "plain", [0, 1]),
    ("out", 1, "plain", [0]), ("loop", 0, "plain", []), ("count", 1, "plain", [0]), ("stop", 0, "plain", []),
    ("grow", 1, "plain", [0]), ("twice", 1, "plain", [0]), ("quote", 1, "plain", []), ("first", 0, "plain", []),
    ("three", 3, "plain", [1, 2, 0]),
]

RULES = [
    ("sum", "(add $x $y)", ["(integer $x)", "(integer $y)"], "", "(plus $x $y)"),
    ("nothing", "(add 'no $y)", [], "(read @7 $v)", "0"),
    ("late", "(add 'no $y)", [], "", "1"),
    ("turn", "(back $x $y)", [], "", "(pair $y $x)"),
    ("mid", "(mid $x $y $z)", [], "", "(pair $x $z)"),
    ("seq", "(seq $x $y)", [], "", "$y"),
    ("cell", "(cell $v)", [], "(new $v $a)", "(pair $a $v)"),
    ("load", "(load $a)", ["(address $a)"], "(read $a $v)", "(pair $v $a)"),
    ("keep", "(keep $a $v)", ["(address $a)"], "(write $a (pair $v $a))", "$v"),
    ("out", "(out $i)", ["(integer $i)"], "(put (plus $i 1))", "$i"),
    ("loop", "loop", [], "", "loop"),
    ("count", "(count $n)", ["(integer $n)"], "", "(seq (out $n) (count (plus $n 1)))"),
    ("grow", "(grow $v)", [], "", "(grow (s $v))"),
    ("twice", "(twice $v)", [], "", "(pair $v $v)"),
    ("quote", "(quote $x)", [], "", "(box $x)"),
    ("first", "first", [], "(read @0 $v)", "$v"),
    ("three", "(three $x $y $z)", [], "", "(pair $x (pair $y $z))"),
]

SIGNATURE = {name: many for name, many, _, _ in CONSTRUCTORS}


def language():
    return read_language(CONSTRUCTORS, RULES)


def term(text):
    return read_term(SIGNATURE, text)


# Programs that end in different ways; most of them at once or after a few steps.
PROGRAMS = [
    "5", "'a", "@3", "{'a 5}", "none", "(pair 1 2)", "(box loop)", "(swap (s 1) (box stop))",
    "(add 1 2)", "(add (add 1 2) (add 3 4))", "(pair (add 1 2) (add 3 4))", "(swap (add 1 2) (add 3 4))",
    "(back (add 1 2) (add 3 4))", "(mid (add 1 2) (add 5 6) (add 3 4))", "(seq (add 1 2) (add 3 4))",
    "(cell 5)", "(load @0)", "(seq (cell 5) (load @0))", "(seq (cell (s 1)) (seq (keep @0 7) (load @0)))",
    "(seq (cell 1) (seq (cell 2) (pair (load @1) (load @0))))", "(keep @0 1)", "(seq (cell 1) (keep @1 1))",
    "(out 5)", "(pair (out 1) (out 2))", "(swap (out 1) (out 2))", "loop", "(seq loop 1)", "(count 0)", "stop",
    "(pair (add 1 2) stop)", "(add 'a 1)", "(add 'no 1)", "(quote loop)", "(twice (s (add 1 1)))", "first",
    "(seq (cell (box loop)) first)", "(grow 0)", "(s (s (s (add (s 1) 1))))", "(add 999999999999999 1)",
    "(out 999999999999999)", "(pair (add 999999999999999 0) (add 999999999999998 1))", "(add -999999999999999 -1)",
    "(pair 1 (s (swap (add 1 2) 3)))", "(three (add 1 2) (add 3 4) (add 5 6))", "(back (three 1 (s (out 2)) 3) (s 4))",
    "(cell (twice (twice (twice (twice (twice (twice (twice (twice 1)))))))))",
    "(twice (twice (twice (twice (twice (twice (twice (twice (twice 1)))))))))",
]
