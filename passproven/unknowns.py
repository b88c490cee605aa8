"""Symbolic terms: terms in which unknowns stand for programs."""

from passproven.terms import children, parts_of, with_part


def integer(n):
    """The symbolic term of an integer."""
    return ("sum", (), n)


def unknown_integer(u):
    """The sum of one unknown alone."""
    return ("sum", ((u, 1),), 0)


def added(one, other, sign):
    """The sum of two sums, the second one times 1 or -1."""
    multiples = dict(one[1])
    for u, multiple in other[1]:
        multiples[u] = multiples.get(u, 0) + sign * multiple
    return ("sum", tuple([(u, multiples[u]) for u in sorted(multiples) if multiples[u] != 0]), one[2] + sign * other[2])


def times(one, number):
    """The sum so many times, for a number other than 0."""
    return ("sum", tuple([(u, multiple * number) for u, multiple in one[1]]), one[2] * number)


def symbolic(term, unknowns):
    """The symbolic term of a term; unknowns tells what the metavariables stand for."""
    # From the end on, the direct parts of a part are made before the part itself.
    made = []
    for part in list(parts_of(term))[::-1]:
        start = len(made) - len(children(part))
        inner = made[start:][::-1]
        del made[start:]
        made.append(_symbolic_part(part, inner, unknowns))
    return made[0]


def _symbolic_part(part, inner, unknowns):
    """The symbolic term of a part of a term, with the symbolic terms of its direct parts."""
    head, worth = part[0], part[1]
    if head == "int":
        return integer(worth)
    if head == "meta":
        return unknowns[worth]
    if head == "map":
        return ("map", None, tuple([(("name", word), entry) for (word, _), entry in zip(worth, inner)]))
    if head == "node":
        return ("node", worth, tuple(inner))
    return part


def inner_terms(term):
    """The list of the symbolic terms directly in a symbolic term, names of entries left out."""
    if term[0] == "node":
        return list(term[2])
    if term[0] == "map":
        return [entry for _, entry in term[2]]
    return []


def size(term):
    """How many terms a symbolic term has, each entry of a map counted once more."""
    many = 0
    waiting = [term]
    while waiting:
        part = waiting.pop()
        many += 1 + (len(part[2]) if part[0] == "map" else 0)
        waiting.extend(inner_terms(part))
    return many


def unknowns_in(term):
    """The ascending list of the unknowns in a symbolic term."""
    found = {}
    waiting = [term]
    while waiting:
        part = waiting.pop()
        if part[0] == "unknown":
            found[part[1]] = True
        elif part[0] == "sum":
            found.update({u: True for u, _ in part[1]})
        elif part[0] == "map":
            if part[1] is not None:
                found[part[1]] = True
            waiting.extend([name for name, _ in part[2]])
        waiting.extend(inner_terms(part))
    return sorted(found)


def replaced(term, way, part):
    """The symbolic term with another term at a way through nodes."""
    return with_part(term, way, part)
