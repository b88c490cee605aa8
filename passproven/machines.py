"""The machine: it evaluates a program with a stack of nodes that wait, without looking for the redex anew."""

from passproven.stepping import contracted, grows_large
from passproven.terms import with_part


class Machine:
    """A machine that evaluates a program of a language, move by move."""

    def __init__(self, language, program):
        self.focus = program
        self.gives = False
        self.store = ()
        self.out = ()
        self.moves = 0
        self.contractions = ()
        self._language = language
        # None, or the tuple (node, index in its strict places, the same for the nodes around it).
        self._waiting = None
        # What the next move makes, once it was worked out.
        self._ahead = None

    def waits(self):
        """The pairs (constructor, place) of the nodes that wait, the innermost one first."""
        return tuple([(node[1], self._strict(node)[at]) for node, at in self._outer_nodes()])

    def state(self):
        """The state for which the machine stands."""
        return self._stands_for(self.focus, self._outer_nodes(), self.store, self.out)

    def end(self):
        """The word with which the machine stops here, or None."""
        return self._looked_ahead()[0]

    def move(self):
        """Makes one move, or none if the machine stops here."""
        end, told, contraction = self._looked_ahead()
        if end is not None:
            return
        self._waiting, self.focus, self.gives, self.store, self.out = told
        self._ahead = None
        self.moves += 1
        if contraction is not None:
            self.contractions = self.contractions + ((self.moves, *contraction),)

    def _strict(self, node):
        return self._language.constructor(node[1])[3]

    def _outer_nodes(self):
        return _listed(self._waiting)

    def _stands_for(self, focus, nodes, store, out):
        for node, at in nodes:
            focus = with_part(node, (self._strict(node)[at],), focus)
        return (focus, store, out)

    def _looked_ahead(self):
        """The tuple (end, what the machine is behind the move, rule and way of a contraction) of the next move."""
        if self._ahead is None:
            self._ahead = self._given() if self.gives else self._evaluated()
        return self._ahead

    def _goes_to(self, waiting, focus, gives):
        return (None, (waiting, focus, gives, self.store, self.out), None)

    def _evaluated(self):
        """The next move if the machine evaluates its focus."""
        if self.focus[0] != "node":
            return self._goes_to(self._waiting, self.focus, True)
        strict = self._strict(self.focus)
        if not strict:
            return self._made_ready(self._waiting, self.focus)
        return self._goes_to((self.focus, 0, self._waiting), self.focus[2][strict[0]], False)

    def _given(self):
        """The next move if the machine gives its focus."""
        if self._waiting is None:
            return ("value", None, None)
        node, at, around = self._waiting
        strict = self._strict(node)
        node = with_part(node, (strict[at],), self.focus)
        if at + 1 < len(strict):
            return self._goes_to((node, at + 1, around), node[2][strict[at + 1]], False)
        return self._made_ready(around, node)

    def _made_ready(self, around, node):
        """The next move if it makes a node ready."""
        if self._language.constructor(node[1])[2] == "value":
            return self._goes_to(around, node, True)
        told = contracted(self._language, node, self.store, self.out)
        if told is None:
            return ("stuck", None, None)
        rule, term, store, out = told
        nodes = _listed(around)
        if grows_large((None, None, self.out), self._stands_for(term, nodes, store, out)):
            return ("large", None, None)
        way = tuple([self._strict(outer)[at] for outer, at in nodes[::-1]])
        return (None, (around, term, False, store, out), (rule, way))


def _listed(waiting):
    """The list of the pairs (node, index) of the nodes that wait, the innermost one first."""
    nodes = []
    while waiting is not None:
        node, at, waiting = waiting
        nodes.append((node, at))
    return nodes


def machine_run(language, program, *, moves):
    """The pair (end, machine) of a machine that made at most so many moves."""
    machine = Machine(language, program)
    while machine.moves < moves and machine.end() is None:
        machine.move()
    end = machine.end()
    if machine.moves == moves and end not in ("value", "stuck"):
        end = "more"
    return (end, machine)
