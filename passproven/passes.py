"""Passes: a template for each constructor of a language, and the translations that they make."""

from passproven.errors import PassError, TooLarge
from passproven.terms import assembled, children, is_word, parts_of, size

MOST_PARTS = 4000
MOST_NESTED = 200

_LEAVES = ("int", "name", "addr", "meta")


class BadPass(PassError):
    """Rows that are not a pass, by the index of the first wrong row."""

    def __init__(self, number, reason):
        self.number = number
        self.reason = reason


def check_pass(source, target, rows):
    """The pass that these rows are, as a tuple."""
    if len(rows) != len(source.constructors):
        raise BadPass(None, "length")
    numbers = {constructor[0]: constructor[1] for constructor in target.constructors}
    for number, row in enumerate(rows):
        reason = _wrong_part(source.constructors[number], numbers, row)
        if reason is not None:
            raise BadPass(number, reason)
    return tuple([(name, tuple(parameters), template) for name, parameters, template in rows])


def _wrong_part(constructor, numbers, row):
    """The reason why a row is wrong for a constructor, or None; numbers are those of the target's arguments."""
    name, parameters, template = row
    if name != constructor[0]:
        return "name"
    if not _are_parameters(parameters, constructor[1]):
        return "parameters"
    parts = list(parts_of(template))
    if not all([_has_right_head(numbers, part) for part in parts]):
        return "signature"
    if any([part[0] == "map" for part in parts]):
        return "map"
    if sorted([part[1] for part in parts if part[0] == "meta"]) != sorted(parameters):
        return "once"
    return None if template[0] == "node" else "node"


def _are_parameters(parameters, many):
    """Whether these are so many different words."""
    if len(parameters) != many or not all([is_word(word) for word in parameters]):
        return False
    return len({word: True for word in parameters}) == many


def _has_right_head(numbers, part):
    """Whether a part of a template is no node, or a node as the target language has them."""
    if part[0] == "node":
        return part[1] in numbers and len(part[2]) == numbers[part[1]]
    return part[0] in _LEAVES or part[0] == "map"


def templates_of(rows):
    """A dict from the constructors of a pass to the pairs of their parameters and their template."""
    return {name: (parameters, template) for name, parameters, template in rows}


def translate(rows, term):
    """The translation of a term by a pass."""
    templates = templates_of(rows)
    # The translation is walked through before it is made, so that a huge one ends the walk early. Beside each part of
    # a template stands what the parameters are there; beside each part of the term stands None.
    heads = []
    waiting = [(term, None, 0)]
    while waiting:
        part, bindings, depth = waiting.pop()
        if bindings is not None and part[0] == "meta":
            part, bindings = bindings[part[1]], None
        if bindings is None and part[0] == "node":
            parameters, template = templates[part[1]]
            part, bindings = template, dict(zip(parameters, part[2]))
        parts = children(part)
        heads.append((part, len(parts)))
        if len(heads) > MOST_PARTS or depth > MOST_NESTED:
            raise TooLarge("a translation is too large")
        waiting.extend([(inner, bindings, depth + 1) for inner in parts[::-1]])
    return assembled(heads)


def translated_state(rows, state):
    """A state with its control and its stored values translated by a pass."""
    control, store, out = state
    return (translate(rows, control), tuple([translate(rows, term) for term in store]), out)


def compose(first, second):
    """The pass that two passes give together, the second one from the language to which the first one goes."""
    rows = [(name, tuple(parameters), translate(second, template)) for name, parameters, template in first]
    if sum([size(template) for _, _, template in rows]) > MOST_PARTS:
        raise TooLarge("the templates of two passes together are too large")
    return tuple(rows)
