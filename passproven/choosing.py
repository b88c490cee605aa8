"""Choices: one case of each condition, so that all of them can hold together."""

from passproven.cases import ANY_SORT, BITS, NODE, allowed_sorts, cases_of, words_of
from passproven.distances import Distances
from passproven.sameness import Sameness


class Choice:
    """What the cases say that were chosen, each fact with the levels of the cases that are the reasons for it."""

    def __init__(self):
        self.sorts = {}
        self.distances = Distances()
        self.sameness = Sameness()
        self._reasons = {}
        self._words = []

    def mark(self):
        """How far the choice has come, for back."""
        return (len(self._words), self.distances.mark(), self.sameness.mark())

    def back(self, mark):
        """Takes back what was chosen since a mark."""
        words, distances, facts = mark
        while len(self._words) > words:
            word = self._words.pop()
            del self.sorts[word]
            del self._reasons[word]
        self.distances.back(distances)
        self.sameness.back(facts)

    def choose(self, case, reasons):
        """Takes a case: None, or the reasons why it is not possible; it is then not taken."""
        mark = self.mark()
        blame = self._taken(case, reasons)
        if blame is not None:
            self.back(mark)
        return blame

    def allows(self, cases):
        """Whether one of these cases could be taken, too."""
        mark = self.mark()
        for case in cases:
            if self.choose(case, 0) is None:
                self.back(mark)
                return True
        return False

    def _taken(self, case, reasons):
        sorts, facts = case
        for word, sort in sorts:
            if word not in self.sorts:
                self.sorts[word] = sort
                self._reasons[word] = reasons
                self._words.append(word)
            elif self.sorts[word] != sort:
                return self._reasons[word] | reasons
        for fact in facts:
            blame = self._fact_taken(fact, reasons)
            if blame is not None:
                return blame
        return None

    def _fact_taken(self, fact, reasons):
        if fact[0] == "most":
            return self.distances.limit(fact[1], fact[2], fact[3], reasons)
        return self.sameness.tell(fact, reasons)


def first_choice(conditions, no_nodes):
    """The first possible choice, in which none of some metavariables is a node; or None."""
    rows = _possible_cases(conditions, no_nodes)
    choice = None if rows is None else _begun(rows)
    if choice is None or not _is_chosen(choice, [cases for cases in rows if len(cases) > 1]):
        return None
    return choice


def only_choice(conditions):
    """The only choice, if it is possible, and if no condition has several cases; otherwise None."""
    rows = _possible_cases(conditions, ())
    if rows is None or any([len(cases) > 1 for cases in rows]):
        return None
    return _begun(rows)


def _begun(rows):
    """The choice of all cases that are the only ones of their rows, or None if it is not possible."""
    choice = Choice()
    for cases in rows:
        if len(cases) == 1 and choice.choose(cases[0], 0) is not None:
            return None
    return choice


def _is_chosen(choice, rows):
    """Whether one case of each row can be taken; the first such cases are taken then."""
    # After a failure the search goes back to the last row that is a reason for it: those between do not matter.
    taken, blames, marks = [0] * len(rows), [0] * len(rows), [None] * len(rows)
    level = 0
    is_new = True
    while level < len(rows):
        if is_new:
            taken[level], blames[level], marks[level] = 0, 0, choice.mark()
        is_new = _takes_next(choice, rows[level], level, taken, blames)
        if is_new:
            level += 1
        else:
            blame = blames[level]
            if blame == 0:
                return False
            level = blame.bit_length() - 1
            blames[level] = blames[level] | (blame ^ (1 << level))
            choice.back(marks[level])
    return True


def _takes_next(choice, cases, level, taken, blames):
    """Whether a further case of a level can be taken; the first such one is taken then."""
    own = 1 << level
    while taken[level] < len(cases):
        case = cases[taken[level]]
        taken[level] += 1
        blame = choice.choose(case, own)
        if blame is None:
            return True
        blames[level] = blames[level] | (blame & (own - 1))
    return False


def _possible_cases(conditions, no_nodes):
    """The list of the cases of each condition that are left by the sorts that others allow, or None."""
    sorts = _first_sorts(conditions, no_nodes)
    rows = [cases_of(condition, sorts) for condition in conditions]
    words = [words_of(condition) for condition in conditions]
    is_settled = False
    while not is_settled:
        is_settled = True
        rows = [[case for case in cases if _is_allowed(case, sorts)] for cases in rows]
        if not all(rows):
            return None
        for listed, cases in zip(words, rows):
            for word in listed:
                left = _left_sorts(word, cases) & sorts[word]
                if left != sorts[word]:
                    sorts[word] = left
                    is_settled = False
    return rows


def _first_sorts(conditions, no_nodes):
    """A dict from the words of the conditions to the sorts that each condition by itself allows."""
    sorts = {word: ANY_SORT for condition in conditions for word in words_of(condition)}
    for word in no_nodes:
        if word in sorts:
            sorts[word] = ANY_SORT - BITS[NODE]
    for condition in conditions:
        for word, allowed in allowed_sorts(condition):
            sorts[word] = sorts[word] & allowed
    return sorts


def _is_allowed(case, sorts):
    return all([sorts[word] & BITS[sort] for word, sort in case[0]])


def _left_sorts(word, cases):
    left = 0
    for case in cases:
        for other, sort in case[0]:
            if other == word:
                left = left | BITS[sort]
    return left
