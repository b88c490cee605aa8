"""Instances of open cases: states from which the two languages run, to see whether they part."""

from passproven.errors import PassError, TooLarge
from passproven.knowledge import word
from passproven.passes import translated_state
from passproven.stepping import is_large, step

MOST_CELLS = 200

_ZERO = ("int", 0)


class NoConstructor(PassError):
    """A name that no constructor has."""


class Parting:
    """A state from which the target language does not follow a step of the source language."""

    def __init__(self, state, rule, following, goal, run):
        self.state = state
        self.rule = rule
        self.following = following
        self.goal = goal
        self.run = run


class Extension:
    """A language with further constructors, of which no rule speaks."""

    def __init__(self, language, constants):
        self.constructors = tuple(language.constructors) + tuple(constants)
        self.rules = language.rules
        self._table = {constructor[0]: constructor for constructor in self.constructors}

    def constructor(self, name):
        """The constructor with this name."""
        if name not in self._table:
            raise NoConstructor(name)
        return self._table[name]


class Instance:
    """Terms for all unknowns, so that all is true that is known of them."""

    def __init__(self, known):
        self._known = known
        self._solution = known.solution()

    def constants(self):
        """The constructors of all unknowns that are further constants."""
        return tuple([self._constant(u) for u in range(self._known.many) if self._is_constant(u)])

    def term(self, u):
        """The term for which an unknown stands."""
        if self._is_constant(u):
            return ("node", self._constant(u)[0], ())
        sort = self._known.sorts[u]
        if sort == "map":
            return self._map(u)
        if isinstance(sort, str):
            return self._solution[word(u)]
        _, constructor, inner = sort
        return ("node", constructor, tuple([self.term(part) for part in inner]))

    def given(self, term):
        """The name or address for which a symbolic one stands."""
        return self._solution[word(term[1])] if term[0] == "unknown" else term

    def _is_constant(self, u):
        return self._known.sorts.get(u, "constant") == "constant"

    def _constant(self, u):
        if self._known.worths.get(u) is True:
            return (f"#{u}", 0, "value", ())
        return (f"?{u}", 0, "plain", ())

    def _map(self, u):
        entries = dict(self._solution[word(u)][1])
        for name, inner in self._known.got.get(u, []):
            entries[self.given(name)[1]] = self.term(inner)
        return ("map", tuple([(name, entries[name]) for name in sorted(entries)]))


def parting_of(redexes, known, action):
    """The parting that an open case of redexes gives, or None if it gives none."""
    instance = Instance(known)
    store = _store(instance, action, redexes.kept)
    if store is None:
        return None
    constants = instance.constants()
    source, target = Extension(redexes.source, constants), Extension(redexes.target, constants)
    rows = list(redexes.rows) + [(name, (), ("node", name, ())) for name, _, _, _ in constants]
    _, constructor, unknowns = redexes.node
    state = (("node", constructor, tuple([instance.term(u) for _, u in unknowns])), store, ())
    _, following, rule, _ = step(source, state)
    try:
        begun, goal = translated_state(rows, state), translated_state(rows, following)
    except TooLarge:
        return None
    if is_large(following) or is_large(goal):
        return None
    run = _parting_run(target, begun, goal, 0 if action is None else 1, redexes.most)
    return None if run is None else Parting(state, rule, following, goal, run)


def _store(instance, action, kept):
    """The cells that an action needs, or None if there would be too many."""
    if action is None or action[0] == "put":
        return ()
    at = instance.given(("unknown", kept) if action[0] == "new" else action[1])[1]
    many = at if action[0] == "new" else at + 1
    if many > MOST_CELLS:
        return None
    cells = (_ZERO,) * many
    return cells[:-1] + (instance.term(kept),) if action[0] == "read" else cells


def _parting_run(target, state, goal, actions, most):
    """The states of a run that does not come to the goal with so many actions.

    None if it does, or if it comes to a large state with no more actions than that.
    """
    acting = {rule[0]: rule[3] is not None for rule in target.rules}
    run = []
    for _ in range(most):
        told = step(target, state)
        if told[0] != "next":
            break
        _, state, rule, _ = told
        if acting[rule]:
            actions -= 1
        if is_large(state):
            if actions >= 0:
                return None
            break
        run.append(state)
        if actions == 0 and state == goal:
            return None
    return tuple(run)
