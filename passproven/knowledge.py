"""Knowledge of unknowns: what they are, whether they are values, and conditions on them."""

from passproven.cases import words_of
from passproven.solving import is_possible, solve
from passproven.unknowns import symbolic, unknown_integer

_PLAIN_SORTS = ("integer", "name", "address", "map")
_SORTS_OF_TERMS = {"sum": "integer", "name": "name", "addr": "address", "map": "map", "node": "node"}


class Knowledge:
    """What is known of unknowns. No method changes it; those that tell more return further knowledge."""

    def __init__(self):
        self.sorts = {}
        self.worths = {}
        self.conditions = ()
        self.got = {}
        self.many = 0
        self._templates = None

    def through(self, templates):
        """The same knowledge, looked at through templates, or plainly for None."""
        known = self._twin()
        known._templates = None if templates is None else dict(templates)
        return known

    def fresh(self, many):
        """The pair of knowledge with so many more unknowns and the list of them."""
        known = self._twin()
        known.many = self.many + many
        return (known, list(range(self.many, known.many)))

    def with_worth(self, u, is_value):
        """Tells whether an unknown is a value."""
        known = self._twin()
        known.worths[u] = is_value
        return known

    def with_sort(self, u, sort):
        """Tells that an unknown is an integer, a name, an address or a map."""
        known = self.with_worth(u, True)
        known.sorts[u] = sort
        return known

    def with_constant(self, u, is_value):
        """Tells that an unknown is a constant of an extension."""
        known = self.with_worth(u, is_value)
        known.sorts[u] = "constant"
        return known

    def with_condition(self, condition):
        """Tells that a condition is true."""
        known = self._twin()
        known.conditions = self.conditions + (condition,)
        return known

    def with_node(self, u, constructor, many):
        """Tells that an unknown is a node of new unknowns: the pair of knowledge and the list of them."""
        known, inner = self.fresh(many)
        known.sorts[u] = ("node", constructor, tuple(inner))
        return (known, inner)

    def with_got(self, base, name):
        """Tells that an unknown map has a value under a name: the pair of knowledge and the unknown that it is."""
        known, inner = self.fresh(1)
        known.worths[inner[0]] = True
        known.got.setdefault(base, []).append((name, inner[0]))
        return (known, inner[0])

    def allows(self, condition):
        """Whether a condition is possible."""
        conditions = self._facts() + [condition]
        return is_possible(self._told_of(_words_in(conditions)) + conditions)

    def solution(self):
        """The solution of all that is known, the unknowns in the order of their numbers; None if there is none."""
        facts = self._facts()
        words = _words_in(facts)
        for u in self.sorts:
            if self.sorts[u] in _PLAIN_SORTS:
                words[word(u)] = True
        order = {word(u): True for u in range(self.many)}
        order.update(words)
        return solve(self._told_of(words) + facts, order=list(order))

    def allows_node(self, u):
        """Whether an unknown can be a node or a constant, for all that conditions say of it."""
        facts = self._facts()
        none = [("not", (sort, word(u))) for sort in _PLAIN_SORTS]
        return word(u) not in _words_in(facts) or is_possible(self._told_of(_words_in(facts)) + facts + none)

    def linked(self, u):
        """A dict whose keys are the words of the unknowns that conditions link to an unknown, itself included.

        It is empty if no condition speaks of the unknown.
        """
        lists = [words_of(condition) for condition in self._facts()]
        found = {}
        waiting = [word(u)]
        while waiting:
            name = waiting.pop()
            for words in lists:
                if name in words:
                    waiting.extend([other for other in words if other not in found])
                    found.update({other: True for other in words})
        return found

    def looked(self, term):
        """What a symbolic term is looked at as."""
        if term[0] != "unknown":
            return term
        u = term[1]
        sort = self.sorts.get(u)
        if sort == "integer":
            return unknown_integer(u)
        if sort == "map":
            return ("map", u, ())
        if sort is None or isinstance(sort, str):
            return term
        _, constructor, inner = sort
        parts = [("unknown", part) for part in inner]
        if self._templates is None:
            return ("node", constructor, tuple(parts))
        parameters, template = self._templates[constructor]
        return symbolic(template, dict(zip(parameters, parts)))

    def sort_of(self, term):
        """The sort of a symbolic term: of a node node, of a constant constant, and None if it is not known."""
        if term[0] != "unknown":
            return _SORTS_OF_TERMS[term[0]]
        sort = self.sorts.get(term[1])
        return sort if sort is None or isinstance(sort, str) else "node"

    def _twin(self):
        known = Knowledge()
        known.sorts = dict(self.sorts)
        known.worths = dict(self.worths)
        known.conditions = self.conditions
        known.got = {base: list(rows) for base, rows in self.got.items()}
        known.many = self.many
        known._templates = self._templates
        return known

    def _facts(self):
        """The list of the conditions, and of those that say that maps have the names under which something was got."""
        facts = list(self.conditions)
        for base in self.got:
            for name, _ in self.got[base]:
                fact = ("has", word(base), operand(name))
                if fact not in facts:
                    facts.append(fact)
        return facts

    def _told_of(self, words):
        """The list of the conditions that say of which sorts the unknowns of these words are."""
        told = []
        for u in sorted({**self.worths, **self.sorts}):
            sort = self.sorts.get(u)
            if word(u) not in words:
                continue
            if sort in _PLAIN_SORTS:
                told.append((sort, word(u)))
            elif sort is not None or self.worths[u] is False:
                told.extend([("not", (plain, word(u))) for plain in _PLAIN_SORTS])
        return told


def _words_in(conditions):
    """A dict whose keys are the words of conditions."""
    return {name: True for told in conditions for name in words_of(told)}


def word(u):
    """The word of the metavariable that an unknown is in conditions."""
    return f"u{u}"


def operand(term):
    """The operand of conditions that a symbolic name, address, unknown or sum of at most one unknown is."""
    if term[0] == "unknown":
        return ("meta", word(term[1]))
    if term[0] != "sum":
        return term
    _, parts, number = term
    if not parts:
        return ("int", number)
    u = word(parts[0][0])
    return ("sum", u, number) if number else ("meta", u)
