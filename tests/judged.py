"""Judging in tests: languages, and judgements that are made twice and looked at by the steps of part C."""

from passproven.constructors import is_program
from passproven.faults import faults
from passproven.instances import Extension
from passproven.judging import judge
from passproven.languages import read_language
from passproven.passes import translate
from passproven.stepping import first_state, is_large, step
from passproven.terms import parts_of

CONSTRUCTORS = [("num", 1, "value", [0]), ("add", 2, "plain", [0, 1]), ("seq", 2, "plain", [0]), ("cell", 1, "plain", [0]), ("load", 1, "plain", [0]),
                ("keep", 2, "plain", [0, 1]), ("out", 1, "plain", [0]), ("put_on", 3, "plain", [0, 1, 2]), ("look", 2, "plain", [0, 1]),
                ("stop", 0, "plain", []), ("if_", 3, "plain", [0]), ("loop", 0, "plain", [])]
RULES = [
    ("sum", "(add (num $x) (num $y))", ["(integer $x)", "(integer $y)"], "", "(num (plus $x $y))"),
    ("seq", "(seq $x $y)", [], "", "$y"),
    ("cell", "(cell $v)", [], "(new $v $n)", "$n"),
    ("load", "(load $a)", ["(address $a)"], "(read $a $v)", "$v"),
    ("keep", "(keep $a $v)", ["(address $a)"], "(write $a $v)", "$v"),
    ("out", "(out $i)", ["(integer $i)"], "(put $i)", "(num $i)"),
    ("put_on", "(put_on $m $k $v)", ["(map $m)", "(name $k)"], "", "(set $m $k $v)"),
    ("look", "(look $m $k)", ["(has $m $k)"], "", "(get $m $k)"),
    ("yes", "(if_ (num 0) $x $y)", [], "", "$x"),
    ("no", "(if_ (num $n) $x $y)", ["(integer $n)"], "", "$y"),
    ("loop", "loop", [], "", "loop"),
]
LANGUAGE = read_language(CONSTRUCTORS, RULES)


def crowded_language(n, m, k, more=(), before=(), twice=False):
    """A language in which the judge tries many cases of f; with rules of other constructors.

    There are 31 + 15 m + 2 k cases if n is 0, and 36 + 3 n + 18 m + 2 k otherwise.
    """
    constructors = [("e", 1, "plain", [0]), ("f", 2, "plain", [0, 1]), ("g", 0, "plain", []), ("f2", 2, "plain", [0, 1]), ("z", 1, "plain", [0])]
    rules = []
    for word in ("f", "f2") if twice else ("f",):
        rules += [(f"{word}x{at}", f"({word} $x $y)", [f"(less $x {10 * at})"], "", "0") for at in range(n)]
        rules += [(f"{word}n{at}", f"({word} $x $y)", [f"(equal $x 'n{at})"], "", "0") for at in range(k)]
        rules += [(f"{word}y{at}", f"({word} $x $y)", [f"(less $y {10 * at})"], "", "0") for at in range(m)]
    return read_language(constructors, list(before) + rules + list(more))


def told_of(parting):
    return None if parting is None else (parting.state, parting.rule, parting.following, parting.goal, parting.run)


def told_by(judgement):
    """All attributes of a judgement, those of the parting among them."""
    return (judgement.verdict, judgement.faults, told_of(judgement.parting), judgement.constructor, judgement.paper)


def judged(test, source, target, rows, most=1):
    """The judgement, after what can be said of any judgement was tested."""
    before = (source.constructors, source.rules, target.constructors, target.rules, repr(rows))
    judgement = judge(source, target, rows, most=most)
    test.assertEqual(told_by(judge(source, target, rows, most=most)), told_by(judgement))
    test.assertEqual((source.constructors, source.rules, target.constructors, target.rules, repr(rows)), before)
    test.assertEqual(judgement.faults, tuple(faults(source, target, rows)))
    has = (judgement.parting is not None, judgement.constructor is not None, judgement.paper is not None)
    if judgement.faults:
        test.assertEqual((judgement.verdict, has), ("no", (False, False, False)))
    else:
        test.assertEqual(has, tuple(judgement.verdict == verdict for verdict in ("no", "undecided", "yes")))
    if judgement.parting is not None:
        check_parting(test, source, target, rows, judgement.parting, most)
    return judgement


def constants_of(state):
    """The further constants of a state, as constructors."""
    names = [part[1] for term in (state[0], *state[1]) for part in parts_of(term) if part[0] == "node"]
    return tuple((name, 0, "value" if name[0] == "#" else "plain", ()) for name in sorted(set(names)) if name[0] in "#?")


def acting(language):
    return {rule[0]: rule[3] is not None for rule in language.rules}


def check_parting(test, source, target, rows, parting, most):
    """A told parting is one: the source makes the step, and the target does not come to the goal as it should."""
    constants = constants_of(parting.state)
    wide, other = Extension(source, constants), Extension(target, constants)
    rows = tuple(rows) + tuple((row[0], (), ("node", row[0], ())) for row in constants)

    def image(state):
        return (translate(rows, state[0]), tuple(translate(rows, term) for term in state[1]), state[2])

    test.assertTrue(is_program(wide, parting.state[0]))
    test.assertEqual(step(wide, parting.state), ("next", parting.following, parting.rule, ()))
    test.assertEqual(parting.goal, image(parting.following))
    wanted = int(acting(source)[parting.rule])
    state, run = image(parting.state), []
    for _ in range(most):
        told = step(other, state)
        if told[0] != "next":
            break
        state = told[1]
        wanted -= acting(target)[told[2]]
        if is_large(state):
            test.assertLess(wanted, 0)
            break
        run.append(state)
        test.assertFalse(state == parting.goal and wanted == 0)
    test.assertEqual(parting.run, tuple(run))


def check_kept(test, source, target, rows, state, most):
    """The step from a state is kept; False if there is none, or none that is not large."""
    told = step(source, state)
    if told[0] != "next" or is_large(told[1]):
        return False

    def image(state):
        return (translate(rows, state[0]), tuple(translate(rows, term) for term in state[1]), state[2])

    goal, reached, wanted = image(told[1]), image(state), int(acting(source)[told[2]])
    for _ in range(most):
        after = step(target, reached)
        test.assertEqual(after[0], "next", state)
        reached = after[1]
        wanted -= acting(target)[after[2]]
        if reached == goal and wanted == 0:
            return True
    test.fail(f"the step is not kept: {state}")


def check_programs(test, source, target, rows, programs, most, steps=15):
    """All steps of these programs are kept."""
    for program in programs:
        state = first_state(program)
        for _ in range(steps):
            if not check_kept(test, source, target, rows, state, most):
                break
            state = step(source, state)[1]
