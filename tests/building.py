"""Short ways to write terms and passes, and to look at knowledge, in tests."""

from passproven.passes import check_pass
from passproven.texts import read_term


def num(n):
    return ("int", n)


def name(word):
    return ("name", word)


def addr(n):
    return ("addr", n)


def meta(word):
    return ("meta", word)


def node(constructor, *parts):
    return ("node", constructor, tuple(parts))


def mapping(**entries):
    return ("map", tuple((word, entries[word]) for word in sorted(entries)))


def chain(levels, inner=("int", 0), constructor="s"):
    """A term with so many nodes of one argument around another term."""
    for _ in range(levels):
        inner = ("node", constructor, (inner,))
    return inner


def wide(entries):
    """A map with so many entries, hence with one part more."""
    words = sorted(f"w{n}" for n in range(entries))
    return ("map", tuple((word, ("int", 0)) for word in words))


def unknown(u):
    return ("unknown", u)


def told(known):
    """All attributes of knowledge, copied."""
    got = {base: list(rows) for base, rows in known.got.items()}
    return (dict(known.sorts), dict(known.worths), known.conditions, got, known.many)


def signature_of(language):
    return {constructor[0]: constructor[1] for constructor in language.constructors}


def rows_of(source, target, *texts):
    """A pass of rows that are given as texts: a constructor, parameters and a template, as in two a b: (pair $b $a)."""
    rows = []
    for text in texts:
        head, template = text.split(":")
        constructor, *parameters = head.split()
        rows.append((constructor, tuple(parameters), read_term(signature_of(target), template)))
    return check_pass(source, target, rows)


def same_rows(source, target=None, **other):
    """The pass that translates each constructor to the one of the same name; other are rows of other texts."""
    rows = []
    for constructor, many, _, _ in source.constructors:
        words = "abcdef"[:many]
        parts = " ".join(f"${word}" for word in words)
        text = f"{' '.join(words)}: ({constructor} {parts})" if many else f": {constructor}"
        rows.append(f"{constructor} {other.get(constructor, text)}")
    return rows_of(source, target or source, *rows)
