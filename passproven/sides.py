"""Runs side by side: a program of the source language, and its translation, which follows step by step."""

from passproven.errors import TooLarge
from passproven.passes import translated_state
from passproven.stepping import first_state, grows_large, step


def translate_state(rows, state):
    """The translation of a state."""
    return translated_state(rows, state)


def follow(source, target, rows, program, *, most, steps):
    """The tuple (end, followed steps, state, image) of a run side by side of at most so many steps."""
    sides = Sides(source, target, rows, most)
    state, image = sides.start(program)
    followed = []
    told = sides.after(state, image, steps > 0)
    while told[0] == "next":
        _, rule, count, state, image = told
        followed.append((rule, count))
        told = sides.after(state, image, len(followed) < steps)
    return (told[0], tuple(followed), state, image)


class Sides:
    """Two languages side by side, of which the target makes at most so many steps for each step of the source."""

    def __init__(self, source, target, rows, most):
        self._source = source
        self._target = target
        self._rows = tuple(rows)
        self._most = most

    def start(self, program):
        """The pair of the state with which a program begins and its translation."""
        state = first_state(program)
        return (state, translate_state(self._rows, state))

    def after(self, state, image, may_follow):
        """The word with which the run ends in a state, or next, the rule, the target's steps, the state and its image.

        image is the translation of the state. The outputs of both are known to be not too long.
        """
        told = step(self._source, state)
        if told[0] != "next":
            return told
        if not may_follow:
            return ("more",)
        _, following, rule, _ = told
        if grows_large(state, following):
            return ("large",)
        try:
            goal = translate_state(self._rows, following)
        except TooLarge:
            return ("large",)
        if grows_large(following, goal):
            return ("large",)
        end, count = self._followed(image, goal)
        return ("next", rule, count, following, goal) if end is None else (end,)

    def _followed(self, image, goal):
        """The pair of None and the number of the step with which the target comes to a goal, or of an end and None."""
        for count in range(1, self._most + 1):
            told = step(self._target, image)
            if told[0] != "next":
                break
            if grows_large(image, told[1]):
                return ("large", None)
            image = told[1]
            if image == goal:
                return (None, count)
        return ("parted", None)
