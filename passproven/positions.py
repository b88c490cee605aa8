"""Sessions: going forward and back in a run side by side."""

from passproven.errors import PassError
from passproven.sides import Sides


class NoPosition(PassError):
    """A position that a run does not have: the nearest one, and the word that tells what is there."""

    def __init__(self, last, end):
        self.last = last
        self.end = end


class Session:
    """A look at a run side by side, which is followed only as far as it is asked for."""

    def __init__(self, source, target, rows, program, *, most=1, limit=100):
        self.position = 0
        self._sides = Sides(source, target, rows, most)
        self._limit = limit
        # What is known of the positions: the states with their images, the target steps, the rules of followed steps.
        self._states = [self._sides.start(program)]
        self._steps = [0]
        self._rules = []
        self._end = None

    def go(self, position):
        """Goes to a position."""
        if position < 0:
            raise NoPosition(0, "start")
        if not self._reaches(position):
            raise NoPosition(len(self._rules), self._end)
        self.position = position

    def forward(self):
        """Goes one position forward."""
        self.go(self.position + 1)

    def back(self):
        """Goes one position back."""
        self.go(self.position - 1)

    def state(self):
        """The source's state at the present position."""
        return self._states[self.position][0]

    def image(self):
        """The translation of the source's state at the present position."""
        return self._states[self.position][1]

    def target_steps(self):
        """The steps that the target makes until the present position."""
        return self._steps[self.position]

    def rule(self):
        """The rule at the present position, or None."""
        return self.rule_at(self.position)

    def rule_at(self, position):
        """The rule at a position, or None if there is none."""
        return self._rules[position] if self._reaches(position + 1) else None

    def end(self):
        """The pair of the last position and the word with which the run ends there."""
        while self._end is None:
            self._follow_on()
        return (len(self._rules), self._end)

    def search(self, names, *, backwards=False):
        """The first position with such a rule from the present one on, or the last one before it; or None."""
        if backwards:
            for position in reversed(range(self.position)):
                if self._rules[position] in names:
                    return position
            return None
        position = self.position
        while self._reaches(position + 1):
            if self._rules[position] in names:
                return position
            position += 1
        return None

    def where(self, steps):
        """The pair of the last position whose target steps are at most so many, and the difference."""
        position = 0
        while self._reaches(position + 1) and self._steps[position + 1] <= steps:
            position += 1
        return (position, steps - self._steps[position])

    def _reaches(self, position):
        """Whether the run has a position."""
        while len(self._states) <= position and self._end is None:
            self._follow_on()
        return position < len(self._states)

    def _follow_on(self):
        """Follows one step further, or finds out that the run ends."""
        state, image = self._states[-1]
        told = self._sides.after(state, image, len(self._rules) < self._limit)
        if told[0] != "next":
            self._end = told[0]
            return
        _, rule, count, state, image = told
        self._states.append((state, image))
        self._steps.append(self._steps[-1] + count)
        self._rules.append(rule)
