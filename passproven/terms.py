"""Terms: words, and the parts of which a term is made."""

LETTERS = "abcdefghijklmnopqrstuvwxyz"
DIGITS = "0123456789"
WORD_CHARACTERS = "abcdefghijklmnopqrstuvwxyz0123456789_"
MOST_CHARACTERS = 12

_FORMS = ("get", "set", "plus", "minus")


def is_word(text):
    """Whether a text is a word."""
    if not isinstance(text, str) or not 1 <= len(text) <= MOST_CHARACTERS:
        return False
    return text[0] in LETTERS and all([sign in WORD_CHARACTERS for sign in text])


def is_whole(number):
    """Whether this is a whole number: an integer that is not True or False."""
    return isinstance(number, int) and not isinstance(number, bool)


def is_leaf(part):
    """Whether this is an integer, a name, an address or a metavariable."""
    if not isinstance(part, tuple) or len(part) != 2:
        return False
    kind, worth = part
    if kind == "int":
        return is_whole(worth)
    if kind == "addr":
        return is_whole(worth) and worth >= 0
    return kind in ("name", "meta") and is_word(worth)


def children(term):
    """The tuple of the direct parts of a term."""
    if term[0] == "node":
        return term[2]
    if term[0] == "map":
        return tuple([entry for _, entry in term[1]])
    if term[0] in _FORMS:
        return term[1:]
    return ()


def rebuild(term, parts):
    """The term with other direct parts."""
    if term[0] == "node":
        return ("node", term[1], tuple(parts))
    if term[0] == "map":
        return ("map", tuple([(word, part) for (word, _), part in zip(term[1], parts)]))
    if term[0] in _FORMS:
        return (term[0], *parts)
    return term


def with_part(term, way, part):
    """The term with another part at the end of a way, the tuple of the places of arguments that one goes through."""
    nodes = []
    for place in way:
        nodes.append(term)
        term = term[2][place]
    for node, place in list(zip(nodes, way))[::-1]:
        part = ("node", node[1], node[2][:place] + (part,) + node[2][place + 1:])
    return part


def assembled(heads):
    """The term of a list of pairs, in the order of the text: a part, and how many direct parts follow it.

    The direct parts that a part has already are replaced by those that follow it.
    """
    # From the end on, the direct parts of a part are made before the part itself.
    made = []
    for part, many in reversed(heads):
        if many:
            parts = made[-many:][::-1]
            del made[-many:]
            made.append(rebuild(part, parts))
        else:
            made.append(part)
    return made[0]


def parts_of(term):
    """All parts of a term in the order of the text."""
    waiting = [term]
    while waiting:
        part = waiting.pop()
        yield part
        waiting.extend(children(part)[::-1])


def size(term):
    """The number of the parts of a term."""
    many = 0
    for _ in parts_of(term):
        many += 1
    return many


def height(term):
    """How many direct parts stand within each other at most."""
    levels = 0
    level = list(children(term))
    while level:
        levels += 1
        level = [child for part in level for child in children(part)]
    return levels


def _all_words(term):
    return [part[1] for part in parts_of(term) if part[0] == "meta"]


def metavariables(term):
    """The list of the words of the metavariables, in the order of their first places."""
    return list({word: True for word in _all_words(term)})


def is_ground(term):
    """Whether a term has no metavariables."""
    return not _all_words(term)


def is_pattern(term):
    """Whether a term has no map, and no metavariable twice."""
    if any([part[0] == "map" for part in parts_of(term)]):
        return False
    return len(_all_words(term)) == len(metavariables(term))
