"""Rules: where they apply, and what result forms become."""

from passproven.conditions import holds
from passproven.errors import PassError
from passproven.matching import match
from passproven.terms import children, rebuild


class Undefined(PassError):
    """A result form that becomes nothing."""


def applied(rule, term):
    """What the metavariables of a rule stand for if it applies to a term, otherwise None."""
    bindings = match(rule[1], term)
    if bindings is None:
        return None
    for condition in rule[2]:
        if not holds(condition, bindings):
            return None
    return bindings


def first_rule(language, term):
    """The pair of the first rule of a term and what its metavariables stand for, or None."""
    for rule in language.rules:
        bindings = applied(rule, term)
        if bindings is not None:
            return (rule, bindings)
    return None


def made(form, bindings):
    """The term that a result form becomes."""
    if form[0] == "meta":
        return bindings[form[1]]
    parts = [made(part, bindings) for part in children(form)]
    if form[0] == "get":
        return _got(parts[0], parts[1])
    if form[0] == "set":
        return _with_entry(parts[0], parts[1], parts[2])
    if form[0] == "plus":
        return ("int", _worth(parts[0], "int") + _worth(parts[1], "int"))
    if form[0] == "minus":
        return ("int", _worth(parts[0], "int") - _worth(parts[1], "int"))
    return rebuild(form, parts)


def _worth(term, head):
    """What stands behind the head of a term that is needed to be an integer, a name or a map."""
    if term[0] != head:
        raise Undefined("a term of another kind is needed")
    return term[1]


def _got(mapping, name):
    word = _worth(name, "name")
    for entry, term in _worth(mapping, "map"):
        if entry == word:
            return term
    raise Undefined("there is no such entry")


def _with_entry(mapping, name, term):
    entries = dict(_worth(mapping, "map"))
    entries[_worth(name, "name")] = term
    return ("map", tuple([(word, entries[word]) for word in sorted(entries)]))
