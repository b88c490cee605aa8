"""Conditions of rules: what they say, and how they are written."""

from passproven.terms import is_leaf, is_whole, is_word
from passproven.texts import read_term

_SIGNATURE = {
    "integer": 1, "name": 1, "address": 1, "map": 1, "equal": 2, "less": 2, "has": 2, "not": 1, "plus": 2,
}
_HEADS = {"integer": "int", "name": "name", "address": "addr", "map": "map"}
_COMPARED = ("int", "name", "addr")


def is_condition(condition):
    """Whether this is a condition over any metavariables."""
    if isinstance(condition, tuple) and len(condition) == 2 and condition[0] == "not":
        return _is_plain(condition[1])
    return _is_plain(condition)


def _is_plain(condition):
    """Whether this is a condition without a not."""
    if not isinstance(condition, tuple):
        return False
    if len(condition) == 2:
        return condition[0] in list(_HEADS) and is_word(condition[1])
    if len(condition) != 3:
        return False
    head, one, other = condition
    if head in ("equal", "less"):
        return _is_operand(one) and _is_operand(other)
    return head == "has" and is_word(one) and is_leaf(other) and other[0] in ("name", "meta")


def _is_operand(operand):
    if isinstance(operand, tuple) and len(operand) == 3:
        head, word, number = operand
        return head == "sum" and is_word(word) and is_whole(number) and number != 0
    return is_leaf(operand)


def operand_value(operand, bindings):
    """The term for which an operand stands, or None."""
    if operand[0] == "meta":
        return bindings[operand[1]]
    if operand[0] != "sum":
        return operand
    _, word, number = operand
    term = bindings[word]
    if term[0] != "int":
        return None
    return ("int", term[1] + number)


def holds(condition, bindings):
    """Whether a condition is true."""
    head, one = condition[0], condition[1]
    if head == "not":
        return not holds(one, bindings)
    if head in _HEADS:
        return bindings[one][0] == _HEADS[head]
    if head == "has":
        return _has_entry(bindings[one], operand_value(condition[2], bindings))
    left, right = operand_value(one, bindings), operand_value(condition[2], bindings)
    if left is None or right is None or left[0] != right[0]:
        return False
    if head == "less":
        return left[0] == "int" and left[1] < right[1]
    return left[0] in _COMPARED and left[1] == right[1]


def _has_entry(mapping, name):
    if mapping[0] != "map" or name[0] != "name":
        return False
    return name[1] in [word for word, _ in mapping[1]]


def operands_of(condition):
    """The list of the operands of a condition as they stand in it, a metavariable for each word that stands alone."""
    head, one = condition[0], condition[1]
    if head == "not":
        return operands_of(one)
    if head in _HEADS:
        return [("meta", one)]
    if head == "has":
        return [("meta", one), condition[2]]
    return [one, condition[2]]


def unknown_operands(condition):
    """The list of those operands of a condition in which a metavariable stands."""
    return [operand for operand in operands_of(condition) if operand[0] in ("meta", "sum")]


def words_of(condition):
    """The words of the metavariables of a condition as they stand in it, also those that stand there twice."""
    return [operand[1] for operand in unknown_operands(condition)]


def read_condition(text):
    """The condition that is written as a text, or None if the text is another term."""
    condition = _written(read_term(dict(_SIGNATURE), text))
    return condition if is_condition(condition) else None


def _written(term):
    """What a term says as a condition; if it is none, something that is no condition, either."""
    if term[0] == "node" and term[1] == "not":
        return ("not", _written_plain(term[2][0]))
    return _written_plain(term)


def _written_plain(term):
    if term[0] != "node":
        return None
    head, parts = term[1], term[2]
    if head in ("equal", "less"):
        return (head, _written_operand(parts[0]), _written_operand(parts[1]))
    if parts[0][0] != "meta":
        return None
    return (head, parts[0][1]) + parts[1:]


def _written_operand(term):
    if term[0] != "node" or term[1] != "plus":
        return term
    one, other = term[2]
    if one[0] != "meta" or other[0] != "int":
        return term
    return ("sum", one[1], other[1])
