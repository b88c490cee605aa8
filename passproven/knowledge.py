"""Knowledge of unknowns: what they are, whether they are values, and conditions on them."""

from passproven.cases import words_of
from passproven.grounds import Ground
from passproven.solving import solve
from passproven.unknowns import symbolic, unknown_integer

_PLAIN_SORTS = ("integer", "name", "address", "map")
_SORTS_OF_TERMS = {"sum": "integer", "name": "name", "addr": "address", "map": "map", "node": "node"}


class Knowledge:
    """What is known of unknowns. No method changes it; those that tell more return further knowledge."""

    def __init__(self):
        self.sorts = {}
        self.worths = {}
        self.conditions = ()
        self.got = {}
        self.many = 0
        self._templates = None
        self._ground = None

    def through(self, templates):
        """The same knowledge, looked at through templates, or plainly for None."""
        known = self._twin()
        known._templates = None if templates is None else dict(templates)
        return known

    def fresh(self, many):
        """The pair of knowledge with so many more unknowns and the list of them."""
        known = self._twin()
        known.many = self.many + many
        return (known, list(range(self.many, known.many)))

    def with_worth(self, u, is_value):
        """Tells whether an unknown is a value."""
        known = self._twin()
        known.worths[u] = is_value
        return known

    def with_sort(self, u, sort):
        """Tells that an unknown is an integer, a name, an address or a map."""
        known = self.with_worth(u, True)
        known.sorts[u] = sort
        return known

    def with_constant(self, u, is_value):
        """Tells that an unknown is a constant of an extension."""
        known = self.with_worth(u, is_value)
        known.sorts[u] = "constant"
        return known

    def with_condition(self, condition):
        """Tells that a condition is true."""
        known = self._twin()
        known.conditions = self.conditions + (condition,)
        return known

    def with_node(self, u, constructor, many):
        """Tells that an unknown is a node of new unknowns: the pair of knowledge and the list of them."""
        known, inner = self.fresh(many)
        known.sorts[u] = ("node", constructor, tuple(inner))
        return (known, inner)

    def with_got(self, base, name):
        """Tells that an unknown map has a value under a name: the pair of knowledge and the unknown that it is."""
        known, inner = self.fresh(1)
        known.worths[inner[0]] = True
        known.got.setdefault(base, []).append((name, inner[0]))
        return (known, inner[0])

    def allows(self, condition):
        """Whether a condition is possible."""
        return self._grounds().allows(condition)

    def allows_node(self, u):
        """Whether an unknown can be a node or a constant, for all that conditions say of it."""
        return self._grounds().allows_node(word(u))

    def certain(self, u):
        """A dict from the words of the integers from which the distance of one is certain to this distance."""
        return self._grounds().certain(word(u))

    def prepared(self):
        """The same knowledge, which answers many questions faster than one."""
        if self._ground is not None:
            return self
        known = self._twin()
        known._ground = self._grounds()
        return known

    def solution(self):
        """The solution of all that is known, the unknowns in the order of their numbers; None if there is none."""
        facts = self._other_conditions()
        words = {name: True for condition in facts for name in words_of(condition)}
        # Nodes and constants have no place in it, unless conditions speak of them.
        told = [condition for condition in self._sort_conditions() if condition[0] != "not" or condition[1][1] in words]
        order = {word(u): True for u in range(self.many)}
        order.update({name: True for condition in told for name in words_of(condition)})
        order.update(words)
        return solve(told + facts, order=list(order))

    def looked(self, term):
        """What a symbolic term is looked at as."""
        if term[0] != "unknown":
            return term
        u = term[1]
        sort = self.sorts.get(u)
        if sort == "integer":
            return unknown_integer(u)
        if sort == "map":
            return ("map", u, ())
        if sort is None or isinstance(sort, str):
            return term
        _, constructor, inner = sort
        parts = [("unknown", part) for part in inner]
        if self._templates is None:
            return ("node", constructor, tuple(parts))
        parameters, template = self._templates[constructor]
        return symbolic(template, dict(zip(parameters, parts)))

    def sort_of(self, term):
        """The sort of a symbolic term: of a node node, of a constant constant, and None if it is not known."""
        if term[0] != "unknown":
            return _SORTS_OF_TERMS[term[0]]
        sort = self.sorts.get(term[1])
        return sort if sort is None or isinstance(sort, str) else "node"

    def _twin(self):
        known = Knowledge()
        known.sorts = dict(self.sorts)
        known.worths = dict(self.worths)
        known.conditions = self.conditions
        known.got = {base: list(rows) for base, rows in self.got.items()}
        known.many = self.many
        known._templates = self._templates
        return known

    def _other_conditions(self):
        """The list of the conditions, and of those that say that maps have the names under which something was got."""
        facts = list(self.conditions)
        for base in self.got:
            for name, _ in self.got[base]:
                fact = ("has", word(base), operand(name))
                if fact not in facts:
                    facts.append(fact)
        return facts

    def _sort_conditions(self):
        """The list of the conditions that say of which sorts unknowns are."""
        told = []
        for u in sorted({**self.worths, **self.sorts}):
            sort = self.sorts.get(u)
            if sort in _PLAIN_SORTS:
                told.append((sort, word(u)))
            elif sort is not None or self.worths[u] is False:
                told.extend([("not", (plain, word(u))) for plain in _PLAIN_SORTS])
        return told

    def _grounds(self):
        return Ground(self._sort_conditions(), self._other_conditions()) if self._ground is None else self._ground


def word(u):
    """The word of the metavariable that an unknown is in conditions."""
    return f"u{u}"


def operand(term):
    """The operand of conditions that a symbolic name, address, unknown or sum of at most one unknown is."""
    if term[0] == "unknown":
        return ("meta", word(term[1]))
    if term[0] != "sum":
        return term
    _, parts, number = term
    if not parts:
        return ("int", number)
    u = word(parts[0][0])
    return ("sum", u, number) if number else ("meta", u)
