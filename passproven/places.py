"""Places: where a term with unknowns is evaluated."""

from passproven.asking import Ask


def place_of(language, known, term):
    """None for a value, blocked and an unknown, or redex and the way to it."""
    # The nodes that evaluation is in, and how many of their strict arguments were looked at.
    nodes, passed = [], []
    coming = [term]
    while coming or nodes:
        if coming:
            seen = _come_to(known, coming.pop())
            if seen is not None and seen[0] == "blocked":
                return seen
            if seen is not None:
                nodes.append(seen)
                passed.append(0)
            continue
        _, _, kind, strict = language.constructor(nodes[-1][1])
        if passed[-1] < len(strict):
            coming.append(nodes[-1][2][strict[passed[-1]]])
            passed[-1] += 1
        elif kind == "plain":
            return ("redex", _way_through(language, nodes, passed))
        else:
            nodes.pop()
            passed.pop()
    return None


def _come_to(known, term):
    """The node that a term is looked at as, blocked and an unknown, or None for other values."""
    if term[0] == "unknown" and known.worths.get(term[1]) is True:
        return None
    seen = known.looked(term)
    if seen[0] == "unknown":
        if seen[1] not in known.worths:
            raise Ask(("value", seen[1]))
        return ("blocked", seen[1])
    return seen if seen[0] == "node" else None


def _way_through(language, nodes, passed):
    """The way through the nodes to the last one."""
    return tuple([language.constructor(node[1])[3][many - 1] for node, many in list(zip(nodes, passed))[:-1]])
