"""Patterns: matching them, filling them, and the common pattern of two."""

from passproven.errors import TooLarge
from passproven.terms import assembled, children, parts_of

MOST_HEIGHT = 200


def match(pattern, term):
    """What the metavariables of a pattern stand for if it matches a term, otherwise None."""
    bindings = {}
    waiting = [(pattern, term)]
    while waiting:
        wanted, found = waiting.pop()
        if wanted[0] == "meta":
            bindings[wanted[1]] = found
        elif _has_same_head(wanted, found):
            waiting.extend(list(zip(children(wanted), children(found)))[::-1])
        else:
            return None
    return bindings


def _has_same_head(one, other):
    """Whether two parts of patterns are alike, apart from their direct parts."""
    if one[0] == "node" and other[0] == "node":
        return one[1] == other[1] and len(one[2]) == len(other[2])
    return one == other


def fill(term, bindings, *, most=4000):
    """The term with other terms in the place of metavariables."""
    _check_room(term, bindings, most)
    heads = []
    for part in parts_of(term):
        if _is_bound(part, bindings):
            heads.append((bindings[part[1]], 0))
        else:
            heads.append((part, len(children(part))))
    return assembled(heads)


def _is_bound(part, bindings):
    return part[0] == "meta" and part[1] in bindings


def _check_room(term, bindings, most):
    """Raises TooLarge if the filled term has too many parts, or is too high."""
    # The filled term is walked through without being made, so that a huge one ends the walk early.
    many = 0
    waiting = [(term, 0, False)]
    while waiting:
        part, depth, is_filled = waiting.pop()
        if not is_filled and _is_bound(part, bindings):
            part, is_filled = bindings[part[1]], True
        many += 1
        if many > most or depth > MOST_HEIGHT:
            raise TooLarge("a filled term is too large")
        waiting.extend([(child, depth + 1, is_filled) for child in children(part)])


def common(first, second):
    """The common pattern of two patterns, or None."""
    parts = _common_parts(first, second)
    if parts is None:
        return None
    heads = []
    words = 0
    for part in parts:
        if part[0] == "meta":
            heads.append((("meta", f"v{words}"), 0))
            words += 1
        else:
            heads.append((part, len(children(part))))
    return assembled(heads)


def _common_parts(first, second):
    """The parts of the common pattern in the order of the text, its metavariables not yet new; or None."""
    parts = []
    waiting = [(first, second)]
    while waiting:
        one, other = waiting.pop()
        if one[0] == "meta":
            parts.extend(list(parts_of(other)))
        elif other[0] == "meta":
            parts.extend(list(parts_of(one)))
        elif _has_same_head(one, other):
            parts.append(one)
            waiting.extend(list(zip(children(one), children(other)))[::-1])
        else:
            return None
    return parts
