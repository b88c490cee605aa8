"""Steps and runs: where a program is evaluated, and what the rules make of it there."""

from passproven.ruling import first_rule, made
from passproven.terms import children, with_part

MOST_TERMS = 400
MOST_NESTED = 100

_FIRST_LONG = 10 ** 15


def redex(language, control):
    """The pair of the way to the redex and the redex, or None if the control is a value."""
    if control[0] != "node":
        return None
    nodes, places, passed = [control], [], [0]
    while nodes:
        node, at = nodes[-1], passed[-1]
        _, _, kind, strict = language.constructor(node[1])
        if at < len(strict):
            passed[-1] += 1
            part = node[2][strict[at]]
            if part[0] == "node":
                nodes.append(part)
                places.append(strict[at])
                passed.append(0)
        elif kind == "plain":
            return (tuple(places), node)
        else:
            nodes.pop()
            passed.pop()
            if places:
                places.pop()
    return None


def contracted(language, node, store, out):
    """The tuple (rule, term, store, out) of what a ready node becomes, or None if it is stuck."""
    found = first_rule(language, node)
    if found is None:
        return None
    (name, _, _, action, result), bindings = found
    done = _done(action, bindings, store, out)
    if done is None:
        return None
    bindings, store, out = done
    return (name, made(result, bindings), store, out)


def _done(action, bindings, store, out):
    """The tuple (bindings, store, out) behind an action, or None if nothing is stored at its address."""
    if action is None:
        return (bindings, store, out)
    head = action[0]
    if head == "put":
        return (bindings, store, out + (made(action[1], bindings)[1],))
    if head == "new":
        address = ("addr", len(store))
        return ({**bindings, action[2]: address}, store + (made(action[1], bindings),), out)
    at = made(action[1], bindings)[1]
    if at >= len(store):
        return None
    if head == "read":
        return ({**bindings, action[2]: store[at]}, store, out)
    return (bindings, store[:at] + (made(action[2], bindings),) + store[at + 1:], out)


def step(language, state):
    """What the next step does: value, stuck, or next with the state behind it, the rule and the way."""
    control, store, out = state
    found = redex(language, control)
    if found is None:
        return ("value",)
    way, node = found
    told = contracted(language, node, store, out)
    if told is None:
        return ("stuck",)
    rule, term, store, out = told
    return ("next", (with_part(control, way, term), store, out), rule, way)


def _is_long(number):
    return abs(number) >= _FIRST_LONG


def is_large(state):
    """Whether a state has too many terms, too high ones, or too long integers."""
    control, store, out = state
    if any([_is_long(number) for number in out]):
        return True
    many = 0
    waiting = [(term, 0) for term in (control, *store)]
    while waiting:
        part, depth = waiting.pop()
        many += 1
        if many > MOST_TERMS or depth > MOST_NESTED or (part[0] == "int" and _is_long(part[1])):
            return True
        waiting.extend([(child, depth + 1) for child in children(part)])
    return False


def grows_large(before, after):
    """Whether a state behind another one is large, if the outputs of the other one are not too long."""
    control, store, out = after
    # Outputs only grow, so that a run need not look at the earlier ones again and again.
    return is_large((control, store, out[len(before[2]):]))


def first_state(program):
    """The state with which a program begins."""
    return (program, (), ())


def _advanced(language, state):
    """What step returns, or large if the state behind the step would be large."""
    told = step(language, state)
    if told[0] == "next" and grows_large(state, told[1]):
        return ("large",)
    return told


def run(language, program, *, steps):
    """The tuple (end, count, state) of a run of at most so many steps."""
    state = first_state(program)
    for count in range(steps):
        told = _advanced(language, state)
        if told[0] != "next":
            return (told[0], count, state)
        state = told[1]
    end = step(language, state)[0]
    return ("more" if end == "next" else end, steps, state)


def trace(language, program, *, steps):
    """The tuple of (rule, way, control) of the steps of a run."""
    state = first_state(program)
    rows = []
    for _ in range(steps):
        told = _advanced(language, state)
        if told[0] != "next":
            break
        _, state, rule, way = told
        rows.append((rule, way, state[0]))
    return tuple(rows)
