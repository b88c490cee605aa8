"""The cases of conditions: of which sorts metavariables are, and what more holds then.

A case is a pair (sorts, facts). sorts is a tuple of pairs of a word and an index in SORTS. facts is a tuple of:
("most", one, other, n), the integer one is at most n greater than the integer other, both words or ZERO;
("alike", s, t) and ("apart", s, t), two names or two addresses are the same, or are not;
("holds", x, k) and ("lacks", x, k), the map x has an entry of the name k, or does not have it.
"""

from passproven.conditions import operands_of, unknown_operands

SORTS = ("integer", "name", "address", "map", "node")
INTEGER = 0
NAME = 1
ADDRESS = 2
MAP = 3
NODE = 4

# The word that stands for the number 0 in facts; no metavariable has it.
ZERO = ""

# Some sorts are a sum of these numbers, one for each index in SORTS.
BITS = (1, 2, 4, 8, 16)
ANY_SORT = 31

_COMPARED = 7
_CONSTANTS = {"int": INTEGER, "name": NAME, "addr": ADDRESS}


def words_of(condition):
    """The list of the words of the metavariables of a condition, in the order of their first places."""
    return list({operand[1]: True for operand in unknown_operands(condition)})


def constants_of(condition):
    """The list of the names and addresses that stand in a condition."""
    return [operand for operand in operands_of(condition) if operand[0] in ("name", "addr")]


def allowed_sorts(condition):
    """The list of pairs (word, sorts) of the sorts to which a condition by itself restricts metavariables."""
    head = condition[0]
    if head == "not":
        inner = condition[1]
        return [(inner[1], ANY_SORT - BITS[_sort_index(inner)])] if len(inner) == 2 else []
    if len(condition) == 2:
        return [(condition[1], BITS[_sort_index(condition)])]
    if head == "has":
        words = [operand[1] for operand in unknown_operands(condition)]
        return list(zip(words, (BITS[MAP], BITS[NAME])))
    alone = BITS[INTEGER] if head == "less" else _COMPARED
    return [(operand[1], BITS[INTEGER] if operand[0] == "sum" else alone) for operand in unknown_operands(condition)]


def _sort_index(condition):
    return SORTS.index(condition[0])


def cases_of(condition, sorts):
    """The list of the cases of a condition in their order, without those of sorts that are not among these.

    sorts is a dict from words to numbers of sorts.
    """
    head = condition[0]
    is_true = head != "not"
    plain = condition if is_true else condition[1]
    if len(plain) == 2:
        return _sort_cases(plain, is_true, sorts)
    left, right = [_readings(operand, sorts) for operand in operands_of(plain)]
    cases = []
    for known, one in left:
        for more, other in right:
            both = _joined(known, more)
            if both is not None:
                cases.extend([(both, facts) for facts in _alternatives(plain, is_true, one, other)])
    return cases


def _sort_cases(plain, is_true, sorts):
    word, wanted = plain[1], _sort_index(plain)
    return [(((word, index),), ()) for index in range(len(SORTS))
            if (index == wanted) == is_true and sorts[word] & BITS[index]]


def _readings(operand, sorts):
    """The list of pairs (sorts, reading) of an operand.

    A reading is a pair (sort, worth): of an integer the worth is a pair of a word and a number to be added.
    """
    head = operand[0]
    if head in _CONSTANTS:
        worth = (ZERO, operand[1]) if head == "int" else operand
        return [((), (_CONSTANTS[head], worth))]
    word = operand[1]
    readings = []
    for index in range(len(SORTS)):
        if sorts[word] & BITS[index]:
            readings.append((((word, index),), _reading(operand, index)))
    return readings


def _reading(operand, index):
    if index == INTEGER:
        return (INTEGER, (operand[1], operand[2] if operand[0] == "sum" else 0))
    # A sum of something else than an integer is nothing, like what cannot be compared.
    return (NODE if operand[0] == "sum" else index, operand)


def _joined(known, more):
    """The sorts that two operands have together, or None if they contradict each other."""
    if known and more and known[0][0] == more[0][0]:
        return known if known == more else None
    return known + more


def _alternatives(plain, is_true, one, other):
    """The list of the tuples of facts of the cases of one choice of sorts."""
    if plain[0] == "has":
        return _alternatives_of_has(plain[1], is_true, one, other)
    is_less = plain[0] == "less"
    if one[0] == INTEGER and other[0] == INTEGER:
        less, greater = _apart_by(one, other, 1), _apart_by(other, one, 1)
        if is_less:
            return [(less,)] if is_true else [(_apart_by(other, one, 0),)]
        return [(_apart_by(one, other, 0), _apart_by(other, one, 0))] if is_true else [(less,), (greater,)]
    if not is_less and one[0] == other[0] and one[0] in (NAME, ADDRESS):
        return [(("alike" if is_true else "apart", one[1], other[1]),)]
    return [] if is_true else [()]


def _alternatives_of_has(word, is_true, one, other):
    if one[0] == MAP and other[0] == NAME:
        return [(("holds" if is_true else "lacks", word, other[1]),)]
    return [] if is_true else [()]


def _apart_by(one, other, gap):
    """The fact that an integer is at least so much smaller than another one."""
    _, (left, more) = one
    _, (right, most) = other
    return ("most", left, right, most - more - gap)
