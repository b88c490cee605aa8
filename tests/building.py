"""Short ways to write terms, and to look at knowledge, in tests."""


def num(n):
    return ("int", n)


def name(word):
    return ("name", word)


def addr(n):
    return ("addr", n)


def meta(word):
    return ("meta", word)


def node(constructor, *parts):
    return ("node", constructor, tuple(parts))


def mapping(**entries):
    return ("map", tuple((word, entries[word]) for word in sorted(entries)))


def chain(levels, inner=("int", 0), constructor="s"):
    """A term with so many nodes of one argument around another term."""
    for _ in range(levels):
        inner = ("node", constructor, (inner,))
    return inner


def wide(entries):
    """A map with so many entries, hence with one part more."""
    words = sorted(f"w{n}" for n in range(entries))
    return ("map", tuple((word, ("int", 0)) for word in words))


def unknown(u):
    return ("unknown", u)


def told(known):
    """All attributes of knowledge, copied."""
    got = {base: list(rows) for base, rows in known.got.items()}
    return (dict(known.sorts), dict(known.worths), known.conditions, got, known.many)
