"""Questions about unknowns: what is known is told, what is not known is asked; and the answers to questions."""

from passproven.cases import ZERO
from passproven.errors import PassError
from passproven.knowledge import operand, word
from passproven.solving import denied
from passproven.unknowns import added, integer, times, unknown_integer

_SORTS = ("integer", "name", "address", "map")


class Ask(PassError):
    """A question that has to be answered first."""

    def __init__(self, question):
        self.question = question


class Undecided(PassError):
    """Integers of several unknowns, of which neither the order is known nor a question is asked."""


def order(known, one, other):
    """The order of two sums: less, equal or greater."""
    known = known.prepared()
    _, parts, number = _difference(known, one, other)
    if not parts:
        return _order_of_number(number)
    left, right = integer(0), integer(-number)
    if sorted([multiple for _, multiple in parts]) not in ([1], [-1], [-1, 1]):
        raise Undecided("a sum of several unknowns would have to be compared")
    for u, multiple in parts:
        if multiple == 1:
            left = unknown_integer(u)
        else:
            right = added(unknown_integer(u), right, 1)
    question = ("order", left, right)
    possible = [answer for answer, condition in _conditions_of_order(question) if known.allows(condition)]
    if len(possible) == 1:
        return possible[0]
    raise Ask(question)


def _order_of_number(number):
    if number == 0:
        return "equal"
    return "less" if number < 0 else "greater"


def _difference(known, one, other):
    """The difference of two sums, in which each unknown is replaced by that from which its distance is certain."""
    difference = added(known.looked(one), known.looked(other), -1)
    total = integer(difference[2])
    for u, multiple in difference[1]:
        total = added(total, times(_anchored(known, u), multiple), 1)
    return total


def _anchored(known, u):
    """An unknown integer as the first integer from which its distance is certain, and this distance."""
    distances = known.certain(u)
    if ZERO in distances:
        return integer(distances[ZERO])
    for other in range(u):
        if word(other) in distances:
            return added(unknown_integer(other), integer(distances[word(other)]), 1)
    return unknown_integer(u)


def _conditions_of_order(question):
    """The pairs of an answer to a question of an order and the condition that it is."""
    left, right = operand(question[1]), operand(question[2])
    return [("less", ("less", left, right)), ("equal", ("equal", left, right)), ("greater", ("less", right, left))]


def is_same(known, one, other):
    """Whether two names, or two addresses, are the same."""
    if one == other:
        return True
    if one[0] != "unknown" and other[0] != "unknown":
        return False
    return _known_or_asked(known, ("same", one, other))


def _known_or_asked(known, question):
    """Whether the condition is true that a question is about."""
    known = known.prepared()
    condition = _condition_of(question)
    if not known.allows(condition):
        return False
    if not known.allows(denied(condition)):
        return True
    raise Ask(question)


def _condition_of(question):
    head, one, other = question
    if head == "has":
        return ("has", word(one), operand(other))
    return ("equal", operand(one), operand(other))


def held(known, mapping, name):
    """What a map holds under a name, or None."""
    _, base, entries = known.looked(mapping)
    for entry, term in entries:
        if is_same(known, entry, name):
            return term
    if base is None or not _known_or_asked(known, ("has", base, name)):
        return None
    for entry, u in known.got.get(base, []):
        if is_same(known, entry, name):
            return ("unknown", u)
    raise Ask(("get", base, name))


def shape(known, term):
    """The shape of a symbolic term: integer, name, address, map, node or constant."""
    sort = known.sort_of(term)
    if sort is None:
        raise Ask(("shape", term[1]))
    return sort


def answers(language, known, question):
    """The list of the pairs of a possible answer to a question and the knowledge that it gives."""
    head = question[0]
    if head == "value":
        return _answers_of_value(known, question[1])
    if head == "shape":
        return _answers_of_shape(language, known, question[1])
    if head == "get":
        return [("yes", known.with_got(question[1], question[2])[0])]
    if head == "order":
        told = _conditions_of_order(question)
    else:
        condition = _condition_of(question)
        told = [("yes", condition), ("no", denied(condition))]
    seen = known.prepared()
    return [(answer, known.with_condition(condition)) for answer, condition in told if seen.allows(condition)]


def _answers_of_value(known, u):
    worth = known.worths.get(u)
    told = [("yes", True), ("no", False)]
    return [(answer, known.with_worth(u, is_value)) for answer, is_value in told if worth is None or worth == is_value]


def _answers_of_shape(language, known, u):
    worth = known.worths.get(u)
    seen = known.prepared()
    listed = []
    if worth is not False:
        listed.extend([(sort, known.with_sort(u, sort)) for sort in _SORTS if seen.allows((sort, word(u)))])
    # Conditions that are known of an unknown can say that it is neither a node nor a constant.
    if not seen.allows_node(u):
        return listed
    for constructor in language.constructors:
        listed.extend(_answers_of_constructor(known, u, constructor))
    if worth is not False:
        listed.append(("a value", known.with_constant(u, True)))
    if worth is not True:
        listed.append(("no value", known.with_constant(u, False)))
    return listed


def _answers_of_constructor(known, u, constructor):
    """The answers that an unknown is a node of a constructor."""
    name, many, kind, strict = constructor
    worth = known.worths.get(u)
    told, inner = known.with_worth(u, kind == "value").with_node(u, name, many)
    listed = []
    if kind == "plain":
        return [] if worth is True else [(("node", name), told)]
    if worth is not False:
        listed.append((("node", name), _with_values(told, [inner[place] for place in strict])))
    if worth is not True:
        told = told.with_worth(u, False)
        for place in strict:
            listed.append((("node", name, place), told.with_worth(inner[place], False)))
            told = told.with_worth(inner[place], True)
    return listed


def _with_values(known, unknowns):
    for u in unknowns:
        known = known.with_worth(u, True)
    return known
