"""Sketches: redexes of which only some is known, the rest being places that conditions speak of."""

from passproven.choosing import first_choice
from passproven.solving import solve

_ROOT = "w0"
_SORTS = ("integer", "name", "address", "map")
_FILLER = ("int", 0)


class Sketch:
    """The redexes of a constructor; the parts of them that are told apart are places, each with a word."""

    def __init__(self, language, constructor):
        self._language = language
        # From the words of places that are known to be nodes to pairs of a constructor and the words of its arguments.
        self._nodes = {}
        # From all places to whether a value has to stand there. The redex is no value, but is taken for one here,
        # because its strict arguments are values as those of a value are.
        self._needs_value = {_ROOT: True}
        # From places to the constructors of which they are no nodes.
        self._barred = {}
        self._conditions = []
        self._make_node(_ROOT, constructor)

    def twin(self):
        """Another sketch of the same redexes."""
        made = Sketch(self._language, self._nodes[_ROOT][0])
        made._nodes = dict(self._nodes)
        made._needs_value = dict(self._needs_value)
        made._barred = dict(self._barred)
        made._conditions = list(self._conditions)
        return made

    def inner(self, pattern, word=_ROOT):
        """The list of the pairs of the arguments of a node of a pattern and the places where they have to match."""
        return list(zip(pattern[2], self._nodes[word][1]))

    def fits(self, part, word):
        """Makes a part of a pattern fit at a place, apart from its direct parts, or returns False."""
        if part[0] != "node":
            self._conditions.append(("equal", ("meta", word), part))
            return word not in self._nodes
        if word in self._nodes:
            return self._nodes[word][0] == part[1]
        if part[1] in self._barred.get(word, ()):
            return False
        # For the conditions the place stays, as a node.
        self._conditions.extend([("not", (sort, word)) for sort in _SORTS])
        self._make_node(word, part[1])
        return True

    def differs(self, part, word):
        """Makes a part of a pattern not fit at a place, or returns False."""
        if part[0] != "node":
            self._conditions.append(("not", ("equal", ("meta", word), part)))
            return True
        if word in self._nodes:
            return self._nodes[word][0] != part[1]
        self._barred[word] = self._barred.get(word, ()) + (part[1],)
        return True

    def demand(self, condition, bindings):
        """Makes a condition true. bindings tells the places of its metavariables."""
        self._conditions.append(_renamed(condition, bindings))

    def is_possible(self):
        """Whether there is such a redex."""
        return first_choice(self._conditions, self._places_without_nodes()) is not None

    def redex(self):
        """One of these redexes, or None if there is none."""
        solution = solve(self._conditions, no_nodes=self._places_without_nodes())
        return None if solution is None else self._built(_ROOT, solution)

    def _make_node(self, word, constructor):
        _, many, _, strict = self._language.constructor(constructor)
        words = []
        for place in range(many):
            inner = f"w{len(self._needs_value)}"
            self._needs_value[inner] = self._needs_value[word] and place in strict
            words.append(inner)
        self._nodes[word] = (constructor, tuple(words))

    def _places_without_nodes(self):
        """The list of the places at which no node can stand, apart from those where one stands."""
        return [word for word in self._needs_value
                if word not in self._nodes and self._free_constructor(word) is None]

    def _free_constructor(self, word):
        """A constructor of which a place can still be a node, or None."""
        barred = self._barred.get(word, ())
        for constructor in self._language.constructors:
            if constructor[0] not in barred and (constructor[2] == "value" or not self._needs_value[word]):
                return constructor
        return None

    def _built(self, word, solution):
        if word in self._nodes:
            constructor, words = self._nodes[word]
            return ("node", constructor, tuple([self._built(inner, solution) for inner in words]))
        term = solution.get(word, _FILLER)
        if term[0] != "node":
            return term
        name, many, _, _ = self._free_constructor(word)
        return ("node", name, (_FILLER,) * many)


def _renamed(condition, bindings):
    """A condition with other words for its metavariables."""
    if condition[0] == "not":
        return ("not", _renamed(condition[1], bindings))
    parts = [_renamed_part(part, bindings) for part in condition[1:]]
    return (condition[0], *parts)


def _renamed_part(part, bindings):
    if isinstance(part, str):
        return bindings[part]
    if part[0] == "meta":
        return ("meta", bindings[part[1]])
    return ("sum", bindings[part[1]], part[2]) if part[0] == "sum" else part
