"""The constructors of a language, and the values and programs that are made of them."""

from passproven.errors import PassError
from passproven.terms import children, is_whole, is_word, parts_of

MOST_CONSTRUCTORS = 40
MOST_ARGUMENTS = 6

_RESERVED = ("get", "set", "plus", "minus", "new", "read", "write", "put")
_VALUES = ("int", "name", "addr", "map")


class BadLanguage(PassError):
    """A language with a wrong number of constructors or rules."""

    def __init__(self, reason):
        self.reason = reason


class BadConstructor(PassError):
    """A wrong constructor, by its index."""

    def __init__(self, number, reason):
        self.number = number
        self.reason = reason


def check_constructors(constructors):
    """Raises the first error of the constructors of a language, if there is one."""
    if not 1 <= len(constructors) <= MOST_CONSTRUCTORS:
        raise BadLanguage("constructors")
    for number, constructor in enumerate(constructors):
        reason = _wrong_part(constructor)
        if reason is not None:
            raise BadConstructor(number, reason)
    seen = {}
    for number, constructor in enumerate(constructors):
        if constructor[0] in seen:
            raise BadConstructor(number, "double")
        seen[constructor[0]] = True


def _wrong_part(constructor):
    """The word of the first part of a constructor that is wrong, or None."""
    name, many, kind, strict = constructor
    if not is_word(name) or name in _RESERVED:
        return "name"
    if not is_whole(many) or not 0 <= many <= MOST_ARGUMENTS:
        return "many"
    if kind not in ("value", "plain"):
        return "kind"
    if not _are_places(strict, many):
        return "strict"
    return None


def _are_places(strict, many):
    """Whether these are different indexes of so many arguments."""
    seen = {}
    for place in strict:
        if not is_whole(place) or not 0 <= place < many or place in seen:
            return False
        seen[place] = True
    return True


def is_value(language, term):
    """Whether a term over the constructors of a language is a value."""
    waiting = [term]
    while waiting:
        part = waiting.pop()
        if part[0] == "node":
            _, _, kind, strict = language.constructor(part[1])
            if kind != "value":
                return False
            waiting.extend([part[2][place] for place in strict])
        elif part[0] not in _VALUES:
            return False
    return True


def is_program(language, term):
    """Whether a term is a program of a language."""
    numbers = {constructor[0]: constructor[1] for constructor in language.constructors}
    maps = []
    for part in parts_of(term):
        if part[0] == "node":
            if part[1] not in numbers or len(part[2]) != numbers[part[1]]:
                return False
        elif part[0] == "map":
            maps.append(part)
        elif part[0] not in _VALUES:
            return False
    # Only here is it known that all nodes have constructors of the language, as is_value needs it.
    return all([is_value(language, entry) for part in maps for entry in children(part)])
