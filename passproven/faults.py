"""Faults of passes: templates that are evaluated in another order than the nodes for which they stand."""

from passproven.knowledge import Knowledge
from passproven.places import place_of
from passproven.unknowns import symbolic


def faults(source, target, rows):
    """The list of the faults of a pass."""
    found = []
    for constructor, row in zip(source.constructors, rows):
        found.extend(_faults_of(target, constructor, row))
    return found


def _faults_of(target, constructor, row):
    """The list of the faults of the template of a constructor."""
    name, many, kind, strict = constructor
    _, parameters, template = row
    # The parameters are unknowns, so that evaluation that stands at one of them is blocked by it.
    known, unknowns = Knowledge().fresh(many)
    for u in unknowns:
        known = known.with_worth(u, False)
    image = symbolic(template, {word: ("unknown", u) for u, word in enumerate(parameters)})
    found = []
    for place in strict:
        if place_of(target, known, image) != ("blocked", place):
            found.append(("place", name, place))
        known = known.with_worth(place, True)
    if kind == "value" and place_of(target, known, image) is not None:
        found.append(("value", name))
    return found
