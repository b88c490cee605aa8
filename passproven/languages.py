"""Languages: constructors and rules that fit together, as data and as texts."""

from passproven.conditions import is_condition, read_condition, words_of
from passproven.constructors import BadLanguage, check_constructors
from passproven.errors import PassError
from passproven.knowing import (
    is_defined, known_of_rules, new_words, parts_at_strict_places, sort_of, sorts_of, sure_words,
)
from passproven.terms import children, height, is_leaf, is_pattern, is_word, metavariables, parts_of, rebuild
from passproven.texts import read_term

MOST_RULES = 60
MOST_CONDITIONS = 8
MOST_HEIGHT = 12

_FORMS = {"get": 2, "set": 3, "plus": 2, "minus": 2}
_ACTIONS = {"new": 2, "read": 2, "write": 2, "put": 1}


class BadRule(PassError):
    """A wrong rule, by its index."""

    def __init__(self, number, reason):
        self.number = number
        self.reason = reason


class Language:
    """A language of constructors and rules."""

    def __init__(self, constructors, rules):
        check_constructors(constructors)
        self.constructors = tuple([(name, many, kind, tuple(strict)) for name, many, kind, strict in constructors])
        self._table = {constructor[0]: constructor for constructor in self.constructors}
        _check_rules(self._table, rules)
        self.rules = tuple([(name, pattern, tuple(conditions), action, result)
                            for name, pattern, conditions, action, result in rules])

    def constructor(self, name):
        """The constructor with this name; a KeyError if there is none."""
        return self._table[name]

    def known(self):
        """The tuple of the pairs (name of a rule, what is known of it)."""
        return known_of_rules(self._table, self.rules)


def _check_rules(table, rules):
    """Raises the first error of the rules, if there is one."""
    if len(rules) > MOST_RULES:
        raise BadLanguage("rules")
    for number, rule in enumerate(rules):
        reason = _wrong_part(table, rule)
        if reason is not None:
            raise BadRule(number, reason)
    seen = {}
    for number, rule in enumerate(rules):
        if rule[0] in seen:
            raise BadRule(number, "double")
        seen[rule[0]] = True


def _wrong_part(table, rule):
    """The reason why a rule is wrong, or None."""
    name, pattern, conditions, action, result = rule
    if not is_word(name):
        return "name"
    if not _is_rule_pattern(table, pattern):
        return "pattern"
    reason = _wrong_conditions(table, pattern, conditions)
    if reason is not None:
        return reason
    words = metavariables(pattern)
    if not _is_action(table, words, action):
        return "action"
    # The sorts can be asked only now, when the conditions and the action are known to be right.
    sorts = sorts_of(table, rule)
    if not _is_action_defined(table, sorts, conditions, action):
        return "undefined"
    if not _is_form(table, words + new_words(action), result):
        return "result"
    return None if is_defined(table, sorts, conditions, result) else "undefined"


def _is_rule_pattern(table, pattern):
    if not _is_well_formed(table, pattern, False):
        return False
    if pattern[0] != "node" or table[pattern[1]][2] != "plain" or not is_pattern(pattern):
        return False
    nodes = [part for part in parts_at_strict_places(table, pattern) if part[0] == "node"]
    return all([table[node[1]][2] == "value" for node in nodes])


def _wrong_conditions(table, pattern, conditions):
    """The reason why the conditions of a rule are wrong, or None."""
    if len(conditions) > MOST_CONDITIONS:
        return "condition"
    words = metavariables(pattern)
    sure = sure_words(table, pattern)
    for condition in conditions:
        if not is_condition(condition) or not all([word in words for word in words_of(condition)]):
            return "condition"
        if not all([word in sure for word in words_of(condition)]):
            return "unsure"
    return None


def _is_action(table, words, action):
    """Whether this is an action over these words of a pattern."""
    if action is None:
        return True
    if not isinstance(action, tuple) or not action or action[0] not in list(_ACTIONS):
        return False
    head, parts = action[0], action[1:]
    if len(parts) != _ACTIONS[head]:
        return False
    if head == "new":
        return _is_form(table, words, parts[0]) and _is_new_word(words, parts[1])
    if head == "read":
        return _is_address(words, parts[0]) and _is_new_word(words, parts[1])
    if head == "write":
        return _is_address(words, parts[0]) and _is_form(table, words, parts[1])
    return _is_form(table, words, parts[0])


def _is_new_word(words, word):
    return is_word(word) and word not in words


def _is_address(words, term):
    if not is_leaf(term):
        return False
    return term[0] == "addr" or (term[0] == "meta" and term[1] in words)


def _is_action_defined(table, sorts, conditions, action):
    """Whether an action is defined for sure."""
    if action is None:
        return True
    if action[0] in ("read", "write") and sort_of(table, sorts, action[1]) != "address":
        return False
    if action[0] == "read":
        return True
    form = action[2] if action[0] == "write" else action[1]
    if not is_defined(table, sorts, conditions, form):
        return False
    sort = sort_of(table, sorts, form)
    return sort == "integer" if action[0] == "put" else sort != "any"


def _is_form(table, words, form):
    """Whether this is a result form over these words that is not too high."""
    return _is_well_formed(table, form, True) and all([word in words for word in metavariables(form)])


def _is_well_formed(table, form, may_have_forms):
    """Whether each part of a term of a rule has its right shape, and the term is not too high."""
    waiting = [form]
    while waiting:
        part = waiting.pop()
        if not _has_right_shape(table, part, may_have_forms):
            return False
        waiting.extend(children(part))
    return height(form) <= MOST_HEIGHT


def _has_right_shape(table, part, may_have_forms):
    """Whether a part has its right shape, apart from its direct parts."""
    if is_leaf(part):
        return True
    if not isinstance(part, tuple) or not part or not isinstance(part[0], str):
        return False
    if part[0] in _FORMS:
        return may_have_forms and len(part) == 1 + _FORMS[part[0]]
    if part[0] == "node":
        return _is_right_node(table, part)
    return part[0] == "map" and len(part) == 2 and _are_right_entries(part[1])


def _is_right_node(table, part):
    if len(part) != 3 or not is_word(part[1]) or not isinstance(part[2], tuple):
        return False
    return part[1] in table and len(part[2]) == table[part[1]][1]


def _are_right_entries(entries):
    """Whether the names of these entries of a map are different words in ascending order."""
    if not isinstance(entries, tuple):
        return False
    last = ""
    for entry in entries:
        if not isinstance(entry, tuple) or len(entry) != 2 or not is_word(entry[0]) or entry[0] <= last:
            return False
        last = entry[0]
    return True


def read_language(constructors, rules):
    """The language of constructors and of rules that are given as texts."""
    check_constructors(constructors)
    signature = {constructor[0]: constructor[1] for constructor in constructors}
    return Language(constructors, [_read_rule(signature, number, rule) for number, rule in enumerate(rules)])


def _read_rule(signature, number, rule):
    name, pattern, conditions, action, result = rule
    return (name, read_term(signature, pattern), _read_conditions(number, conditions),
            _read_action(signature, number, action), _read_form(signature, result))


def _read_conditions(number, texts):
    conditions = []
    for text in texts:
        condition = read_condition(text)
        if condition is None:
            raise BadRule(number, "condition")
        conditions.append(condition)
    return tuple(conditions)


def _joined(signature, others):
    return {**signature, **others}


def _read_form(signature, text):
    return _form_of(read_term(_joined(signature, dict(_FORMS)), text))


def _read_action(signature, number, text):
    if text == "":
        return None
    action = _action_of(read_term(_joined(_joined(signature, dict(_FORMS)), dict(_ACTIONS)), text))
    if action is None:
        raise BadRule(number, "action")
    return action


def _is_written_action(term):
    return term[0] == "node" and term[1] in _ACTIONS


def _action_of(term):
    """The action that is written as a term, or None if the term is not written as an action."""
    if not _is_written_action(term):
        return None
    parts = term[2]
    for form in parts:
        if any([_is_written_action(part) for part in parts_of(form)]):
            return None
    head = term[1]
    if head in ("read", "write") and parts[0][0] not in ("addr", "meta"):
        return None
    if head in ("new", "read"):
        return (head, _form_of(parts[0]), parts[1][1]) if parts[1][0] == "meta" else None
    forms = [_form_of(part) for part in parts]
    return (head, *forms)


def _form_of(term):
    """The result form that is written as a term."""
    parts = [_form_of(part) for part in children(term)]
    if term[0] == "node" and term[1] in _FORMS:
        return (term[1], *parts)
    return rebuild(term, parts)
