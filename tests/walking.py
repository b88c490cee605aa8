"""Two languages side by side: a source whose steps take one, two or three steps of the target, and its pass."""

from building import rows_of
from passproven.languages import Language, read_language
from passproven.texts import read_term

SOURCE = read_language(
    [("num", 1, "value", [0]), ("box", 1, "value", []), ("add", 2, "plain", [0, 1]), ("seq", 2, "plain", [0]), ("out", 1, "plain", [0]),
     ("cell", 1, "plain", [0]), ("load", 1, "plain", [0]), ("keep", 2, "plain", [0, 1]), ("down", 1, "plain", [0]), ("loop", 0, "plain", []),
     ("stop", 0, "plain", []), ("grow", 1, "plain", [0]), ("big", 1, "plain", [0])],
    [("sum", "(add (num $x) (num $y))", ["(integer $x)", "(integer $y)"], "", "(num (plus $x $y))"),
     ("seq", "(seq $x $y)", [], "", "$y"),
     ("out", "(out (num $i))", ["(integer $i)"], "(put $i)", "(num $i)"),
     ("cell", "(cell $v)", [], "(new $v $n)", "$n"),
     ("load", "(load $a)", ["(address $a)"], "(read $a $v)", "$v"),
     ("keep", "(keep $a $v)", ["(address $a)"], "(write $a $v)", "$v"),
     ("none", "(down (num 0))", [], "", "(num 0)"),
     ("less", "(down (num $n))", ["(less 0 $n)"], "", "(down (num (minus $n 1)))"),
     ("loop", "loop", [], "", "loop"),
     ("grow", "(grow $v)", [], "", "(grow (num $v))"),
     ("big", "(big $v)", [], "", "(big (box $v))")])

# add takes two steps, down takes three, loop one that leaves the state as it is, and all others one. A node of the
# source is one or several nodes of the target.
TARGET = read_language(
    [("i", 1, "value", [0]), ("b", 2, "value", []), ("plus_", 2, "plain", [1, 0]), ("sum_", 2, "plain", [0, 1]), ("then", 2, "plain", [1]),
     ("say", 1, "plain", [0]), ("ref", 1, "plain", [0]), ("peek", 1, "plain", [0]), ("poke", 2, "plain", [1, 0]), ("d1", 1, "plain", [0]),
     ("d2", 1, "plain", [0]), ("d3", 1, "plain", [0]), ("spin", 0, "plain", []), ("halt", 0, "plain", []), ("more", 1, "plain", [0]), ("bulk", 1, "plain", [0])],
    [("p1", "(plus_ $y $x)", [], "", "(sum_ $x $y)"),
     ("p2", "(sum_ (i $x) (i $y))", ["(integer $x)", "(integer $y)"], "", "(i (plus $x $y))"),
     ("then", "(then $y $x)", [], "", "$y"),
     ("say", "(say (i $i))", ["(integer $i)"], "(put $i)", "(i $i)"),
     ("ref", "(ref $v)", [], "(new $v $n)", "$n"),
     ("peek", "(peek $a)", ["(address $a)"], "(read $a $v)", "$v"),
     ("poke", "(poke $v $a)", ["(address $a)"], "(write $a $v)", "$v"),
     ("d1", "(d1 $n)", [], "", "(d2 $n)"), ("d2", "(d2 $n)", [], "", "(d3 $n)"),
     ("d3", "(d3 (i 0))", [], "", "(i 0)"), ("d4", "(d3 (i $n))", ["(less 0 $n)"], "", "(d1 (i (minus $n 1)))"),
     ("spin", "spin", [], "", "spin"),
     ("more", "(more $v)", [], "", "(more (i $v))"),
     ("bulk", "(bulk $v)", [], "", "(bulk (b $v (b 1 (b 2 (b 3 4)))))")])

ROWS = rows_of(SOURCE, TARGET, "num x: (i $x)", "box x: (b $x (b 1 (b 2 (b 3 4))))", "add x y: (plus_ $y $x)", "seq x y: (then $y $x)", "out x: (say $x)",
               "cell v: (ref $v)", "load a: (peek $a)", "keep a v: (poke $v $a)", "down n: (d1 $n)", "loop: spin", "stop: halt", "grow v: (more $v)",
               "big v: (bulk $v)")

SIGNATURE = {constructor[0]: constructor[1] for constructor in SOURCE.constructors}

PROGRAMS = [
    "5", "(num 7)", "(box stop)", "stop", "(add (num 1) (num 2))", "(add (add (num 1) (num 2)) (num 3))", "(out (add (num 1) (num 2)))", "(down (num 3))",
    "(add (down (num 2)) (down (num 1)))", "(seq (out (num 1)) (seq (out (num 2)) (add (num 3) (num 4))))", "(seq (cell (num 5)) (load @0))",
    "(seq (cell (num 1)) (seq (keep @0 (box loop)) (load @0)))", "(load @0)", "(seq (out (num 1)) stop)", "loop", "(seq (down (num 1)) loop)",
    "(grow 0)", "(big 0)", "(add (num 999999999999999) (num 1))", "(add (num 'a) (num 1))", "(down (num -1))",
]


def term(text):
    return read_term(SIGNATURE, text)


def changed_target(word, *rule):
    """The target with another rule of a name, or without it."""
    [read] = read_language(TARGET.constructors, [(word,) + rule]).rules if rule else [None]
    rules = [read if row[0] == word else row for row in TARGET.rules if row[0] != word or rule]
    return Language(TARGET.constructors, rules)
