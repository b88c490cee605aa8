"""Comparisons of symbolic terms and of actions: they ask what is not known."""

from passproven.asking import Undecided, held, is_same, order


def are_same(known, one, other):
    """Whether two symbolic terms are the same."""
    # Triples of two terms and None, or of two maps and a name under which they are to be compared.
    waiting = [(one, other, None)]
    while waiting:
        first, second, name = waiting.pop()
        if name is not None:
            first, second = held(known, first, name), held(known, second, name)
            if first is None or second is None:
                return False
        first, second = known.looked(first), known.looked(second)
        inner = _compared_within(known, first, second)
        if inner is None:
            return False
        waiting.extend(inner[::-1])
    return True


def _compared_within(known, first, second):
    """The list of what has to be compared for two terms to be the same, or None if they are different."""
    sort = known.sort_of(first)
    if sort != known.sort_of(second):
        return None
    if sort == "node":
        if first[1] != second[1]:
            return None
        return [(one, other, None) for one, other in zip(first[2], second[2])]
    if sort == "map":
        if first[1] != second[1]:
            return None
        return [(first, second, name) for name, _ in first[2] + second[2]]
    return [] if _are_same_leaves(known, sort, first, second) else None


def _are_same_leaves(known, sort, first, second):
    """Whether two terms of a sort, neither nodes nor maps, are the same."""
    if sort == "integer":
        return _are_equal(known, first, second)
    if sort in ("name", "address"):
        return is_same(known, first, second)
    return first == second


def _are_equal(known, first, second):
    try:
        return order(known, first, second) == "equal"
    except Undecided:
        return False


def are_same_actions(known, one, other):
    """Whether two actions are the same."""
    if one[0] != other[0]:
        return False
    for first, second in zip(one[1:], other[1:]):
        if not are_same(known, first, second):
            return False
    return True
