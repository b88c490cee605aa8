"""Grounds: conditions that are told once, so that many questions about further conditions are cheap."""

from passproven.cases import ANY_SORT, NODE, SORTS, ZERO, allowed_sorts, cases_of, words_of
from passproven.choosing import only_choice
from passproven.solving import is_possible, solve


class Ground:
    """Conditions, some of which say only of which sorts metavariables are."""

    def __init__(self, told, facts):
        self._told = told
        self._facts = facts
        self._sorts = {}
        for condition in told:
            for word, sorts in allowed_sorts(condition):
                self._sorts[word] = self._sorts.get(word, ANY_SORT) & sorts
        # Without conditions of several cases, all questions can be put to the only choice.
        self._choice = only_choice(self._with_sorts(facts))
        # What was answered before: the distances of integers.
        self._distances = {}

    def allows(self, condition):
        """Whether a further condition is possible."""
        if self._choice is None:
            return is_possible(self._with_sorts(self._facts + [condition]))
        sorts = {word: self._sorts.get(word, ANY_SORT) for word in words_of(condition)}
        return self._choice.allows(cases_of(condition, sorts))

    def allows_node(self, word):
        """Whether a metavariable can be a node."""
        if self._choice is None:
            return is_possible(self._with_sorts(self._facts) + [("not", (sort, word)) for sort in SORTS[:NODE]])
        return self._choice.allows([(((word, NODE),), ())])

    def certain(self, word):
        """A dict from the integers from which the distance of one is certain, words or ZERO, to this distance."""
        if word not in self._distances:
            self._distances[word] = self._certain(word)
        return self._distances[word]

    def _certain(self, word):
        if self._choice is not None:
            return self._choice.distances.certain(word)
        conditions = self._with_sorts(self._facts)
        solution = solve(conditions)
        if solution is None:
            return {}
        worths = {other: solution[other][1] for other in solution if solution[other][0] == "int"}
        if word not in worths:
            return {}
        worths[ZERO] = 0
        # A distance that is certain is that of any solution.
        distances = {other: worths[word] - worths[other] for other in worths}
        return {other: distances[other] for other in distances
                if not is_possible(conditions + [_another_distance(word, other, distances[other])])}

    def _with_sorts(self, facts):
        """The list of these conditions, and of those that say of which sorts their metavariables are."""
        words = {word: True for condition in facts for word in words_of(condition)}
        return [condition for condition in self._told if words_of(condition)[0] in words] + facts


def _another_distance(word, other, distance):
    """The condition that the distance of an integer from another one is not this one."""
    if other == ZERO:
        end = ("int", distance)
    else:
        end = ("sum", other, distance) if distance else ("meta", other)
    return ("not", ("equal", ("meta", word), end))
