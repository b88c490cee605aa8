"""What is known for sure of the metavariables and the result forms of a rule."""

from passproven.conditions import words_of
from passproven.terms import children, metavariables, parts_of

# The first one that is told of a metavariable is its sort.
_SORTS = ("integer", "name", "map", "address", "value")
_LEAVES = {"int": "integer", "plus": "integer", "minus": "integer", "name": "name", "addr": "address",
           "map": "map", "set": "map", "get": "value"}


def strict_parts(table, node):
    """The list of the arguments of a node at its strict places."""
    return [node[2][place] for place in table[node[1]][3]]


def parts_at_strict_places(table, pattern):
    """The list of all parts that stand at a strict place of a pattern, or of such a node at any depth."""
    found = []
    waiting = strict_parts(table, pattern)[::-1]
    while waiting:
        part = waiting.pop()
        found.append(part)
        if part[0] == "node":
            waiting.extend(strict_parts(table, part)[::-1])
    return found


def sure_words(table, pattern):
    """A dict with the words of the sure metavariables of a pattern as its keys."""
    return {part[1]: True for part in parts_at_strict_places(table, pattern) if part[0] == "meta"}


def new_words(action):
    """The list of the new metavariable of an action, if there is one."""
    return [action[2]] if action is not None and action[0] in ("new", "read") else []


def known(table, rule):
    """The tuple of the pairs (word, sort) of the metavariables of a rule."""
    _, pattern, conditions, action, _ = rule
    told = [(word, "value") for word in sure_words(table, pattern)]
    for condition in conditions:
        told.extend(_told_by(condition))
    for word in new_words(action):
        told.append((word, "address" if action[0] == "new" else "value"))
    return tuple([(word, _first_sort(word, told)) for word in metavariables(pattern) + new_words(action)])


def sorts_of(table, rule):
    """A dict from the words of the metavariables of a rule to their sorts."""
    return dict(known(table, rule))


def known_of_rules(table, rules):
    """The tuple of the pairs (name of a rule, what is known of it)."""
    return tuple([(rule[0], known(table, rule)) for rule in rules])


def _first_sort(word, told):
    for sort in _SORTS:
        if (word, sort) in told:
            return sort
    return "any"


def _told_by(condition):
    """The list of the pairs (word, sort) that a condition tells."""
    head = condition[0]
    if head in ("integer", "name", "address", "map"):
        return [(condition[1], head)]
    if head == "less":
        return [(word, "integer") for word in words_of(condition)]
    if head == "has":
        return list(zip(words_of(condition), ("map", "name")))
    return []


def sort_of(table, sorts, form):
    """The sort of a result form."""
    if form[0] == "meta":
        return sorts[form[1]]
    if form[0] in _LEAVES:
        return _LEAVES[form[0]]
    if table[form[1]][2] == "value" and _are_values(table, sorts, strict_parts(table, form)):
        return "value"
    return "any"


def _are_values(table, sorts, forms):
    return all([sort_of(table, sorts, form) != "any" for form in forms])


def is_defined(table, sorts, conditions, form):
    """Whether a result form is defined for sure."""
    return all([_is_part_defined(table, sorts, conditions, part) for part in parts_of(form)])


def _is_part_defined(table, sorts, conditions, part):
    if part[0] == "get":
        return _is_get_defined(conditions, part)
    if part[0] == "set":
        _, mapping, name, form = part
        return (sort_of(table, sorts, mapping) == "map" and sort_of(table, sorts, name) == "name"
                and _are_values(table, sorts, [form]))
    if part[0] in ("plus", "minus"):
        return all([sort_of(table, sorts, form) == "integer" for form in children(part)])
    if part[0] == "map":
        return _are_values(table, sorts, children(part))
    return True


def _is_get_defined(conditions, part):
    _, mapping, name = part
    if mapping[0] != "meta" or name[0] not in ("meta", "name"):
        return False
    return ("has", mapping[1], name) in conditions
