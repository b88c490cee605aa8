"""Templates that meet: what their parameters can stand for, so that two of them become the same term."""

from passproven.terms import children, parts_of

_ZERO = ("int", 0)


class Templates:
    """The templates of a pass, and what is found for their nodes.

    A meeting of two parts is a list of links. A link tells what a parameter stands for: a tuple of whether it is one
    of the first part, its word, and either a leaf and None, or None and the number of a node.
    """

    def __init__(self, rows):
        self._rows = rows
        # All parts of the templates, and for each the numbers of its direct parts.
        self._parts = []
        self._inner = []
        self._roots = [self._numbered(template) for _, _, template in rows]
        # From the numbers of nodes to the pair of what is found for them and a dict of what the parameters stand for.
        self._found = {}
        self._search()

    def first_pair(self):
        """Two terms with one translation, from the first two templates that meet; or None."""
        for first in range(len(self._rows)):
            for second in range(first + 1, len(self._rows)):
                meeting = self._meeting(self._roots[first], self._roots[second])
                if meeting is not None and self._is_met(meeting):
                    left, right = self._bindings(meeting)
                    return (self._made(first, left), self._made(second, right))
        return None

    def _numbered(self, template):
        """Gives numbers to the parts of a template; the number of the template itself."""
        start = len(self._parts)
        self._parts.extend(list(parts_of(template)))
        self._inner.extend([[] for _ in range(start, len(self._parts))])
        waiting = []
        for number in reversed(range(start, len(self._parts))):
            begin = len(waiting) - len(children(self._parts[number]))
            self._inner[number] = waiting[begin:][::-1]
            del waiting[begin:]
            waiting.append(number)
        return start

    def _search(self):
        """Finds, round by round, terms for the nodes of the templates."""
        left = [number for number in range(len(self._parts)) if self._parts[number][0] == "node"]
        meetings = {number: self._meetings(number) for number in left}
        is_done = False
        while not is_done:
            found = {}
            for number in left:
                for row, meeting in meetings[number]:
                    if self._is_met(meeting):
                        bindings, others = self._bindings(meeting)
                        found[number] = (self._made(row, others), bindings)
                        break
            self._found.update(found)
            left = [number for number in left if number not in found]
            is_done = not found

    def _meetings(self, number):
        """The list of pairs of the index of a template and its meeting with a node, as far as there are any."""
        listed = [(row, self._meeting(number, root)) for row, root in enumerate(self._roots)]
        return [(row, meeting) for row, meeting in listed if meeting is not None]

    def _meeting(self, one, other):
        """The meeting of two parts if something is found for the nodes in it, or None if they cannot meet."""
        links = []
        waiting = [(one, other)]
        while waiting:
            one, other = waiting.pop()
            first, second = self._parts[one], self._parts[other]
            if first[0] == "meta" and second[0] == "meta":
                links.extend([(True, first[1], _ZERO, None), (False, second[1], _ZERO, None)])
            elif first[0] == "meta":
                links.append(_link(True, first[1], second, other))
            elif second[0] == "meta":
                links.append(_link(False, second[1], first, one))
            elif first[0] == "node" and second[0] == "node" and first[1] == second[1]:
                waiting.extend(list(zip(self._inner[one], self._inner[other])))
            elif first != second:
                return None
        return links

    def _is_met(self, meeting):
        """Whether something is found for all nodes of a meeting."""
        return all([number is None or number in self._found for _, _, _, number in meeting])

    def _bindings(self, meeting):
        """The pair of dicts of what the parameters of the first and of the second part stand for."""
        left, right = {}, {}
        for is_first, word, leaf, number in meeting:
            own, others = (left, right) if is_first else (right, left)
            if number is None:
                own[word] = leaf
            else:
                own[word], inner = self._found[number]
                others.update(inner)
        return (left, right)

    def _made(self, row, bindings):
        """The node of the constructor of a row, with what its parameters stand for."""
        name, parameters, _ = self._rows[row]
        return ("node", name, tuple([bindings[word] for word in parameters]))


def _link(is_first, word, part, number):
    if part[0] == "node":
        return (is_first, word, None, number)
    return (is_first, word, part, None)
