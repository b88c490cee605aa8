"""Names and addresses that are the same or not, and the names that maps have: whether this contradicts itself."""


class Sameness:
    """Names and addresses, as terms, of which some are the same, each fact with its reasons, bits of a number."""

    def __init__(self):
        # From each term to those that are the same by a fact: pairs (term, reasons).
        self._links = {}
        self._apart = []
        # Tuples (map, name, whether the map has it, reasons).
        self._told = []
        self._added = []

    def tell(self, fact, reasons):
        """Tells a fact: None, or the reasons why it is not possible."""
        head, one, other = fact
        if head == "alike":
            return self._join(one, other, reasons)
        if head == "apart":
            return self._part(one, other, reasons)
        return self._entry(one, other, head == "holds", reasons)

    def mark(self):
        """How many facts there are, for back."""
        return len(self._added)

    def back(self, many):
        """Takes back the facts behind the first ones."""
        while len(self._added) > many:
            head, one, other = self._added.pop()
            if head == "alike":
                self._links[one].pop()
                self._links[other].pop()
            elif head == "apart":
                self._apart.pop()
            else:
                self._told.pop()

    def reached(self, term):
        """A dict from the terms that are the same as a term, itself included, to the reasons."""
        found = {term: 0}
        waiting = [term]
        while waiting:
            part = waiting.pop()
            for other, reasons in self._links.get(part, []):
                if other not in found:
                    found[other] = found[part] | reasons
                    waiting.append(other)
        return found

    def names(self, word):
        """The list of the names that a map has by the facts."""
        return [name for mapping, name, has, _ in self._told if mapping == word and has]

    def _join(self, one, other, reasons):
        left = self.reached(one)
        if other not in left:
            blame = self._contradiction(left, self.reached(other))
            if blame is not None:
                return blame | reasons
        self._links.setdefault(one, []).append((other, reasons))
        self._links.setdefault(other, []).append((one, reasons))
        self._added.append(("alike", one, other))
        return None

    def _contradiction(self, left, right):
        """Why nothing of the one dict can be the same as something of the other one, or None."""
        one, other = _given_term(left), _given_term(right)
        if one is not None and other is not None:
            return left[one] | right[other]
        for first, second, reasons in self._apart:
            if first in left and second in right:
                return left[first] | right[second] | reasons
            if first in right and second in left:
                return right[first] | left[second] | reasons
        return self._contradiction_of_maps(left, right)

    def _contradiction_of_maps(self, left, right):
        there = [row for row in self._told if row[1] in left]
        for mapping, name, has, reasons in self._told:
            if name in right:
                for row in there:
                    if row[0] == mapping and row[2] != has:
                        return left[row[1]] | right[name] | reasons | row[3]
        return None

    def _part(self, one, other, reasons):
        found = self.reached(one)
        if other in found:
            return found[other] | reasons
        self._apart.append((one, other, reasons))
        self._added.append(("apart", one, other))
        return None

    def _entry(self, mapping, name, has, reasons):
        found = self.reached(name)
        for word, term, is_there, why in self._told:
            if word == mapping and is_there != has and term in found:
                return found[term] | reasons | why
        self._told.append((mapping, name, has, reasons))
        self._added.append(("told", mapping, name))
        return None


def _given_term(found):
    """The name or address among these terms that is no metavariable, or None."""
    for term in found:
        if term[0] != "meta":
            return term
    return None
