"""Papers: whether one says for each case what comes of trying it, so that the pass is kept."""

from passproven.faults import faults
from passproven.trials import Cases, all_redexes


def check_paper(source, target, rows, paper, *, most):
    """Whether a paper is right for a pass and a number of steps."""
    if faults(source, target, rows):
        return False
    listed = all_redexes(source, target, rows, most)
    if [redexes.node[1] for redexes in listed] != [pair[0] for pair in paper]:
        return False
    for redexes, pair in zip(listed, paper):
        if not _are_told(redexes, pair[1]):
            return False
    return True


def _are_told(redexes, entries):
    """Whether these are just the entries of all cases of redexes; none of them is open or undecided then."""
    cases = Cases(redexes)
    for entry in entries:
        if not cases.are_left() or cases.try_next()[:2] != entry or entry[0] not in ("ask", "stuck", "met"):
            return False
    return not cases.are_left()
