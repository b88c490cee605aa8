"""Coverage of rules: redexes to which two rules apply, on which a rule comes first, or to which no rule applies."""

from passproven.errors import PassError
from passproven.sketches import Sketch
from passproven.solving import denied
from passproven.terms import parts_of

MOST_CASES = 10000


class TooManyCases(PassError):
    """A search that would have to look at too many cases."""


def common_redex(language, first, second):
    """A redex to which both rules apply, or None."""
    one, other = _rule(language, first), _rule(language, second)
    if _constructor_of(one) != _constructor_of(other):
        return None
    sketch = Sketch(language, _constructor_of(one))
    return sketch.redex() if _applies(sketch, one) and _applies(sketch, other) else None


def first_redex(language, name):
    """A redex on which a rule comes first, or None."""
    rule = _rule(language, name)
    sketch = Sketch(language, _constructor_of(rule))
    if not _applies(sketch, rule):
        return None
    before = []
    for other in language.rules:
        if other[0] == name:
            break
        before.append(other)
    return _redex_without(sketch, _rules_of(before, _constructor_of(rule)))


def stuck_redex(language, name):
    """A redex of a plain constructor to which no rule applies, or None."""
    if language.constructor(name)[2] != "plain":
        return None
    return _redex_without(Sketch(language, name), _rules_of(language.rules, name))


def _rule(language, name):
    for rule in language.rules:
        if rule[0] == name:
            return rule
    raise KeyError(name)


def _constructor_of(rule):
    return rule[1][1]


def _rules_of(rules, constructor):
    return [rule for rule in rules if _constructor_of(rule) == constructor]


def _ways_to_fail(rule):
    """How many parts of a rule can keep it from applying to a redex of its constructor."""
    inner = [part for part in parts_of(rule[1]) if part[0] != "meta"]
    return len(inner) - 1 + len(rule[2])


def _applies(sketch, rule):
    """Makes a rule apply to the redexes of a sketch, or returns False."""
    waiting = sketch.inner(rule[1])
    bindings = {}
    while waiting:
        part, word = waiting.pop()
        if part[0] == "meta":
            bindings[part[1]] = word
        elif not sketch.fits(part, word):
            return False
        elif part[0] == "node":
            waiting.extend(sketch.inner(part, word))
    for condition in rule[2]:
        sketch.demand(condition, bindings)
    return True


def _failures(sketch, rule):
    """The list of the sketches of those redexes to which a rule does not apply, one for each part that comes first."""
    made = []
    present = sketch.twin()
    waiting = present.inner(rule[1])
    bindings = {}
    while waiting:
        part, word = waiting.pop()
        if part[0] == "meta":
            bindings[part[1]] = word
            continue
        other = present.twin()
        if other.differs(part, word):
            made.append(other)
        if not present.fits(part, word):
            return made
        if part[0] == "node":
            waiting.extend(present.inner(part, word))
    for condition in rule[2]:
        other = present.twin()
        other.demand(denied(condition), bindings)
        made.append(other)
        present.demand(condition, bindings)
    return made


def _redex_without(sketch, rules):
    """A redex of a sketch to which none of these rules applies, or None."""
    many = 1
    for rule in rules:
        many = many * max(1, _ways_to_fail(rule))
    # With few ways to fail ahead, the ways of the other rules are looked at only where they matter.
    search = Search(many > MOST_CASES)
    found = search.without(sketch, sorted(rules, key=_ways_to_fail)) if sketch.is_possible() else None
    return None if found is None else found.redex()


class Search:
    """A search for redexes to which no rule of a list applies; it gives up if it may and has tried too many cases."""

    def __init__(self, may_give_up):
        self._may_give_up = may_give_up
        self._tried = 0

    def without(self, sketch, rules):
        """A sketch of some of the redexes of another one to which none of the rules applies, or None."""
        if not rules:
            return sketch
        with_rule = sketch.twin()
        if not _applies(with_rule, rules[0]) or not with_rule.is_possible():
            return self.without(sketch, rules[1:])
        for other in _failures(sketch, rules[0]):
            self._count()
            found = self.without(other, rules[1:]) if other.is_possible() else None
            if found is not None:
                return found
        return None

    def _count(self):
        self._tried += 1
        if self._may_give_up and self._tried > MOST_CASES:
            raise TooManyCases("too many cases")
