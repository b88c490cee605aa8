"""The judge: whether a pass keeps every run."""

from passproven.errors import PassError
from passproven.faults import faults
from passproven.instances import parting_of
from passproven.trials import Cases, all_redexes

MOST_CASES = 500


class TooManyCases(PassError):
    """More cases of a constructor than the judge tries."""

    def __init__(self, constructor):
        self.constructor = constructor


class Judgement:
    """A verdict, and what is told with it."""

    def __init__(self, verdict, found, parting, constructor, paper):
        self.verdict = verdict
        self.faults = found
        self.parting = parting
        self.constructor = constructor
        self.paper = paper


def judge(source, target, rows, *, most):
    """The judgement whether a pass is kept within so many steps."""
    found = tuple(faults(source, target, rows))
    if found:
        return Judgement("no", found, None, None, None)
    paper = []
    crowded, undecided = [], []
    for redexes in all_redexes(source, target, rows, most):
        name = redexes.node[1]
        end, told = _looked_at(redexes)
        if end == "parting":
            return Judgement("no", (), told, None, None)
        if end == "crowded":
            crowded.append(name)
        elif end == "undecided":
            undecided.append(name)
        paper.append((name, told))
    if crowded:
        raise TooManyCases(crowded[0])
    if undecided:
        return Judgement("undecided", (), None, undecided[0], None)
    return Judgement("yes", (), None, None, tuple(paper))


def _looked_at(redexes):
    """The pair of parting and a parting, or of crowded, undecided or kept and the entries of the cases."""
    entries = []
    end = "kept"
    cases = Cases(redexes)
    while cases.are_left():
        if len(entries) == MOST_CASES:
            return ("crowded", tuple(entries))
        told = cases.try_next()
        entries.append(told[:2])
        if told[0] == "open":
            parting = parting_of(redexes, told[1], told[2])
            if parting is not None:
                return ("parting", parting)
        if told[0] in ("open", "undecided"):
            end = "undecided"
    return (end, tuple(entries))
