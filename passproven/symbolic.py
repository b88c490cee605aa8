"""Symbolic steps: what a step does to a term with unknowns, asking for what has to be known."""

from passproven.asking import Ask, answers, held, is_same, order, shape
from passproven.errors import PassError
from passproven.knowledge import Knowledge
from passproven.places import place_of
from passproven.terms import metavariables
from passproven.unknowns import added, integer, replaced, size, symbolic

MOST_TERMS = 800
MOST_ROWS = 2000


class TooLong(PassError):
    """A term after a step with too many terms, or too many rows."""


def step(language, known, term, kept):
    """What a step of a symbolic term does: value, stuck, blocked, or next with all that it makes."""
    known = known.prepared()
    found = place_of(language, known, term)
    if found is None:
        return ("value",)
    if found[0] == "blocked":
        return found
    way = found[1]
    written = _written_along(known, term, way)
    redex = _part_at(written, way)
    for rule in language.rules:
        bindings = _applied(known, rule, redex)
        if bindings is not None:
            action, bindings, more = _acted(known, rule[3], bindings, kept)
            result = _made(known, rule[4], bindings)
            return ("next", rule[0], action, replaced(written, way, result), more)
    return ("stuck",)


def _written_along(known, term, way):
    """A term in which the unknowns on a way are written as the nodes that they are."""
    nodes = [known.looked(term)]
    for place in way:
        nodes.append(known.looked(nodes[-1][2][place]))
    written = nodes.pop()
    for node, place in list(zip(nodes, way))[::-1]:
        written = replaced(node, (place,), written)
    return written


def _part_at(term, way):
    for place in way:
        term = term[2][place]
    return term


def _applied(known, rule, redex):
    """What the metavariables of a rule stand for if it applies to a redex, otherwise None."""
    bindings = {}
    waiting = [(rule[1], redex)]
    while waiting:
        wanted, found = waiting.pop()
        if wanted[0] == "meta":
            bindings[wanted[1]] = found
        elif not _fits(known, wanted, found):
            return None
        elif wanted[0] == "node":
            waiting.extend(list(zip(wanted[2], known.looked(found)[2]))[::-1])
    for condition in rule[2]:
        if not _is_true(known, condition, bindings):
            return None
    return bindings


def _fits(known, wanted, found):
    """Whether a part of a pattern fits a symbolic term, apart from its direct parts."""
    kind = shape(known, found)
    if wanted[0] == "node":
        return kind == "node" and known.looked(found)[1] == wanted[1]
    if wanted[0] == "int":
        return kind == "integer" and order(known, known.looked(found), integer(wanted[1])) == "equal"
    return kind == ("name" if wanted[0] == "name" else "address") and is_same(known, found, wanted)


def _is_true(known, condition, bindings):
    """Whether a condition of a rule is true."""
    head = condition[0]
    if head == "not":
        return not _is_true(known, condition[1], bindings)
    if len(condition) == 2:
        return shape(known, bindings[condition[1]]) == head
    if head == "has":
        return _has(known, bindings[condition[1]], condition[2], bindings)
    left = _reading(known, condition[1], bindings)
    right = _reading(known, condition[2], bindings)
    if left is None or right is None:
        return False
    if left[0] == "integer" and right[0] == "integer":
        return order(known, left[1], right[1]) == ("less" if head == "less" else "equal")
    if head == "less" or left[0] != right[0] or left[0] not in ("name", "address"):
        return False
    return is_same(known, left[1], right[1])


def _has(known, mapping, name, bindings):
    if shape(known, mapping) != "map":
        return False
    kind, term = _reading(known, name, bindings)
    return kind == "name" and held(known, mapping, term) is not None


def _reading(known, operand, bindings):
    """The pair of the shape of an operand and the symbolic term that it is, or None if it is nothing."""
    if operand[0] not in ("meta", "sum"):
        term = symbolic(operand, {})
        return (shape(known, term), term)
    term = bindings[operand[1]]
    kind = shape(known, term)
    if operand[0] == "meta":
        return (kind, known.looked(term))
    return (kind, added(known.looked(term), integer(operand[2]), 1)) if kind == "integer" else None


def _acted(known, action, bindings, kept):
    """The tuple (action, bindings, knowledge) of what an action of a rule does; what it brings is the kept unknown."""
    # The knowledge that is returned is never the one that was passed, so that either can be changed by itself.
    same, _ = known.fresh(0)
    if action is None:
        return (None, bindings, same)
    head = action[0]
    made = _made(known, action[1], bindings)
    if head == "put":
        return (("put", known.looked(made)), bindings, same)
    if head == "write":
        return (("write", made, _made(known, action[2], bindings)), bindings, same)
    more = known.with_sort(kept, "address") if head == "new" else known.with_worth(kept, True)
    return ((head, made), {**bindings, action[2]: ("unknown", kept)}, more)


def _made(known, form, bindings):
    """The symbolic term that a result form becomes."""
    head = form[0]
    if head == "meta":
        return bindings[form[1]]
    if head == "node":
        return ("node", form[1], tuple([_made(known, part, bindings) for part in form[2]]))
    if head == "map":
        return ("map", None, tuple([(("name", word), _made(known, part, bindings)) for word, part in form[1]]))
    if head not in ("get", "set", "plus", "minus"):
        return symbolic(form, {})
    parts = [_made(known, part, bindings) for part in form[1:]]
    if head == "get":
        return held(known, parts[0], parts[1])
    one = known.looked(parts[0])
    if head == "set":
        return ("map", one[1], ((parts[1], parts[2]),) + one[2])
    return added(one, known.looked(parts[1]), 1 if head == "plus" else -1)


def step_cases(language, term, values):
    """The list of the rows of all cases of a step of a term whose metavariables are unknowns."""
    words = metavariables(term)
    known, unknowns = Knowledge().fresh(len(words) + 1)
    for u, word in enumerate(words):
        if word in values:
            known = known.with_worth(u, True)
    begun = symbolic(term, {word: ("unknown", u) for u, word in enumerate(words)})
    rows = []
    waiting = [(None, None, known)]
    while waiting:
        around, answer, known = waiting.pop()
        told = _told(language, known, begun, unknowns[-1])
        if len(rows) == MOST_ROWS:
            raise TooLong("too many rows")
        if told[0] == "ask":
            more = [(len(rows), reply, knowledge) for reply, knowledge in answers(language, known, told[1])]
            waiting.extend(more[::-1])
        rows.append((around, answer, *told))
    return rows


def _told(language, known, term, kept):
    """What a row tells: a question, or what a step does, without the knowledge."""
    try:
        told = step(language, known, term, kept)
    except Ask as ask:
        return ("ask", ask.question)
    if told[0] != "next":
        return told
    _, rule, action, after, _ = told
    in_cell = 0 if action is None or action[0] not in ("new", "write") else size(action[-1])
    if size(after) + in_cell > MOST_TERMS:
        raise TooLong("a term after a step has too many terms")
    return ("next", rule, action, after)
