"""Sources of translations: the terms that a pass translates to a given one, and two terms with one translation."""

from passproven.errors import TooLarge
from passproven.meeting import Templates
from passproven.passes import MOST_PARTS, translate
from passproven.terms import children, parts_of, rebuild, size


def source_of(rows, term):
    """The first source of a term, or None if it has none."""
    by_root = {}
    for row in rows:
        by_root.setdefault(row[2][1], []).append(row)
    # From the end on, the direct parts of a part come before the part itself. What is made of a part is a triple: the
    # part, the list of what was made of its direct parts, and its first source or None.
    made = []
    for part in list(parts_of(term))[::-1]:
        start = len(made) - len(children(part))
        inner = made[start:][::-1]
        del made[start:]
        made.append((part, inner, _first_source(by_root, part, inner)))
    return made[0][2]


def _first_source(by_root, part, inner):
    if part[0] == "node":
        return _first_source_of_node(by_root.get(part[1], []), part, inner)
    sources = [source for _, _, source in inner]
    return None if None in sources else rebuild(part, sources)


def _first_source_of_node(rows, part, inner):
    for name, parameters, template in rows:
        bindings = _sources_of_parameters(template, (part, inner, None))
        if bindings is not None:
            return ("node", name, tuple([bindings[word] for word in parameters]))
    return None


def _sources_of_parameters(template, whole):
    """The first sources of what the parameters stand for; None if the template does not match, or one has none."""
    bindings = {}
    waiting = [(template, whole)]
    while waiting:
        wanted, (part, inner, source) = waiting.pop()
        if wanted[0] == "meta":
            if source is None:
                return None
            bindings[wanted[1]] = source
        elif wanted[0] == "node" and part[0] == "node" and wanted[1] == part[1]:
            waiting.extend(list(zip(wanted[2], inner)))
        elif wanted != part:
            return None
    return bindings


def two_sources(rows):
    """The tuple (first, second, translation) of two terms with one translation, or None if there are none."""
    found = Templates(rows).first_pair()
    if found is None:
        return None
    first, second = found
    # The terms can be too large to be walked through, but no term has more parts or is higher than its translation.
    translation = translate(rows, first)
    if size(first) + size(second) + size(translation) > MOST_PARTS:
        raise TooLarge("two terms and their translation are too large")
    return (first, second, translation)
