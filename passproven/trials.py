"""Trials: what comes of trying the cases of the redexes of a constructor, one after the other."""

from passproven.asking import Ask, Undecided, answers
from passproven.comparing import are_same, are_same_actions
from passproven.knowledge import Knowledge
from passproven.passes import templates_of
from passproven.symbolic import step
from passproven.unknowns import size, symbolic

MOST_TERMS = 400


def translated(templates, term):
    """The translation of a symbolic term, in which an unknown stands for its translation."""
    if term[0] == "map":
        return ("map", term[1], tuple([(name, translated(templates, entry)) for name, entry in term[2]]))
    if term[0] != "node":
        return term
    parameters, template = templates[term[1]]
    return symbolic(template, dict(zip(parameters, [translated(templates, part) for part in term[2]])))


def _translated_action(templates, action):
    if action is None:
        return None
    parts = [translated(templates, part) for part in action[1:]]
    return (action[0], *parts)


class Redexes:
    """The redexes of a plain constructor of a source language, which a pass translates."""

    def __init__(self, source, target, rows, constructor, most):
        self.source = source
        self.target = target
        self.rows = rows
        self.most = most
        name, many, _, strict = constructor
        known, unknowns = Knowledge().fresh(many + 1)
        for place in strict:
            known = known.with_worth(place, True)
        self.begun = known
        self.kept = unknowns[-1]
        self.node = ("node", name, tuple([("unknown", u) for u in unknowns[:-1]]))
        self._templates = templates_of(rows)
        self._image = translated(self._templates, self.node)

    def tried(self, known):
        """What comes of trying a case.

        ("ask", question, what is known where it is asked), ("stuck",), ("met", number of the step), ("undecided",),
        or ("open", what is known behind the source's step, the action of the source's step).
        """
        try:
            told = step(self.source, known, self.node, self.kept)
        except Ask as ask:
            return ("ask", ask.question, known)
        if told[0] != "next":
            return ("stuck",)
        _, _, action, term, known = told
        if _is_too_long(action, term):
            return ("undecided",)
        return self._followed(known, action, term)

    def _followed(self, known, action, term):
        """What comes of trying a case in which the source language makes a step."""
        wanted = _translated_action(self._templates, action)
        goal = translated(self._templates, term)
        try:
            number = self._met(known.through(self._templates).prepared(), wanted, goal)
        except Ask as ask:
            return ("ask", ask.question, known)
        except Undecided:
            return ("undecided",)
        return ("open", known, action) if number is None else ("met", number)

    def _met(self, known, wanted, goal):
        """The number of the step of the target language behind which the goal is met, or None."""
        term = self._image
        is_done = wanted is None
        for number in range(1, self.most + 1):
            told = step(self.target, known, term, self.kept)
            if told[0] != "next":
                return None
            _, _, action, term, _ = told
            if _is_too_long(action, term):
                raise Undecided("a term after a step is too long")
            if action is not None:
                if is_done or not are_same_actions(known, action, wanted):
                    return None
                is_done = True
            if is_done and are_same(known, term, goal):
                return number
        return None


def _is_too_long(action, term):
    """Whether a term after a step has too many terms, together with the term that its action puts into a cell."""
    in_cell = 0 if action is None or action[0] not in ("new", "write") else size(action[-1])
    return size(term) + in_cell > MOST_TERMS


def all_redexes(source, target, rows, most):
    """The list of the redexes of each plain constructor of the source language."""
    return [Redexes(source, target, rows, constructor, most)
            for constructor in source.constructors if constructor[2] == "plain"]


class Cases:
    """All cases of redexes; those by which a case is replaced are tried before the ones behind it."""

    def __init__(self, redexes):
        self._redexes = redexes
        self._waiting = [redexes.begun]

    def are_left(self):
        """Whether there is a case that was not tried."""
        return len(self._waiting) > 0

    def try_next(self):
        """Tries the next case and tells what comes of it."""
        told = self._redexes.tried(self._waiting.pop())
        if told[0] == "ask":
            _, question, known = told
            more = [knowledge for _, knowledge in answers(self._redexes.source, known, question)]
            self._waiting.extend(more[::-1])
        return told
