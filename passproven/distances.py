"""Differences of integers: bounds on them, whether they contradict each other, and the integers nearest to 0."""

from passproven.cases import ZERO


class Distances:
    """Bounds on the differences of integers, each with the reasons for it, bits of a number."""

    def __init__(self):
        # Integers that keep all bounds. They keep them still when bounds are taken back.
        self._worths = {}
        # From each integer to those that it bounds from above: tuples (integer, how much greater, reasons).
        self._above = {}
        self._below = {}
        self._added = []

    def limit(self, one, other, most, reasons):
        """Tells that one is at most so much greater than other: None, or the reasons why it is not possible."""
        if one == other:
            return None if most >= 0 else reasons
        blame = self._repaired(one, other, most, reasons)
        if blame is None:
            self._above.setdefault(other, []).append((one, most, reasons))
            self._below.setdefault(one, []).append((other, most, reasons))
            self._added.append((one, other))
        return blame

    def mark(self):
        """How many bounds there are, for back."""
        return len(self._added)

    def back(self, many):
        """Takes back the bounds behind the first ones."""
        while len(self._added) > many:
            one, other = self._added.pop()
            self._above[other].pop()
            self._below[one].pop()

    def _repaired(self, one, other, most, reasons):
        """Lowers the integers until they keep a new bound: None, or the reasons why there are none."""
        worths = self._worths
        lowest = worths.setdefault(other, 0) + most
        if worths.setdefault(one, 0) <= lowest:
            return None
        before = {one: worths[one]}
        causes = {one: (None, reasons)}
        worths[one] = lowest
        waiting = [one]
        at = 0
        while at < len(waiting):
            source = waiting[at]
            at += 1
            for target, bound, why in self._above.get(source, []):
                lower = worths[source] + bound
                if lower < worths[target]:
                    if target == other:
                        self._worths.update(before)
                        return _all_reasons(causes, source, why)
                    before.setdefault(target, worths[target])
                    worths[target] = lower
                    causes[target] = (source, why)
                    waiting.append(target)
        return None

    def certain(self, word):
        """A dict from the integers from which the distance of one is certain, by the bounds, to this distance."""
        above, below = {word: 0}, {word: 0}
        _spread(above, self._above, word)
        _spread(below, self._below, word)
        return {other: below[other] for other in above if other in below and above[other] == -below[other]}

    def nearest(self, words):
        """A dict from these words to integers, each as near to 0 as all bounds and the integers before it allow."""
        highest, lowest = {ZERO: 0}, {ZERO: 0}
        _spread(highest, self._above, ZERO)
        _spread(lowest, self._below, ZERO)
        settled = {}
        for word in words:
            # Both dicts count upwards: what is in the second one is the opposite of the lowest integer.
            worth = 0
            if word in lowest and -lowest[word] > 0:
                worth = -lowest[word]
            elif word in highest and highest[word] < 0:
                worth = highest[word]
            settled[word] = worth
            highest[word], lowest[word] = worth, -worth
            _spread(highest, self._above, word)
            _spread(lowest, self._below, word)
        return settled


def _all_reasons(causes, source, why):
    """The reasons on the way that led to an integer."""
    while source is not None:
        source, more = causes[source]
        why = why | more
    return why


def _spread(limits, bounds, word):
    """Lowers the limits that follow from the limit of one word."""
    waiting = [word]
    at = 0
    while at < len(waiting):
        source = waiting[at]
        at += 1
        for target, bound, _ in bounds.get(source, []):
            lower = limits[source] + bound
            if target not in limits or lower < limits[target]:
                limits[target] = lower
                waiting.append(target)
