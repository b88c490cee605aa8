"""Part D by its words: all choices in their order, without any care for speed."""

import itertools
import random
import string

SORTS = ("integer", "name", "address", "map", "node")


def words_of(condition):
    if condition[0] == "not":
        return words_of(condition[1])
    if len(condition) == 2:
        return [condition[1]]
    first = ("meta", condition[1]) if condition[0] == "has" else condition[1]
    return list(dict.fromkeys(part[1] for part in (first, condition[2]) if part[0] in ("meta", "sum")))


def readings(operand):
    """Pairs of sorts and what the operand is then."""
    if operand[0] in ("int", "name", "addr"):
        kinds = {"int": ("integer", None, operand[1]), "name": ("name", operand), "addr": ("address", operand)}
        return [({}, kinds[operand[0]])]
    word = operand[1]
    found = [({word: "integer"}, ("integer", word, operand[2] if operand[0] == "sum" else 0))]
    for sort in SORTS[1:]:
        found.append(({word: sort}, ("nothing",) if operand[0] == "sum" else (sort, operand)))
    return found


def below(one, other, gap):
    """The fact that one integer plus the gap is at most the other one."""
    return ("most", one[1], other[1], other[2] - one[2] - gap)


def cases_of(condition):
    """The cases of D3: pairs of sorts and facts."""
    is_true = condition[0] != "not"
    plain = condition if is_true else condition[1]
    if len(plain) == 2:
        return [({plain[1]: sort}, []) for sort in SORTS if (sort == plain[0]) == is_true]
    first = ("meta", plain[1]) if plain[0] == "has" else plain[1]
    cases = []
    for (known, one), (more, other) in itertools.product(readings(first), readings(plain[2])):
        if all(more.get(word, sort) == sort for word, sort in known.items()):
            cases += [({**known, **more}, facts) for facts in facts_of(plain, is_true, one, other)]
    return cases


def facts_of(plain, is_true, one, other):
    both = (one[0], other[0])
    if plain[0] == "has" and both == ("map", "name"):
        return [[("has" if is_true else "lacks", plain[1], other[1])]]
    if plain[0] == "equal" and both in (("name", "name"), ("address", "address")):
        return [[("same" if is_true else "other", one[1], other[1])]]
    if plain[0] == "equal" and both == ("integer", "integer"):
        return [[below(one, other, 0), below(other, one, 0)]] if is_true else [[below(one, other, 1)], [below(other, one, 1)]]
    if plain[0] == "less" and both == ("integer", "integer"):
        return [[below(one, other, 1) if is_true else below(other, one, 0)]]
    return [] if is_true else [[]]


def closure(facts):
    """A dict of the least bounds, or None."""
    bounds = {(None, None): 0}
    words = {None}
    for fact in facts:
        if fact[0] == "most":
            words |= {fact[1], fact[2]}
            bounds[fact[1:3]] = min(fact[3], bounds.get(fact[1:3], fact[3]))
    for middle, one, other in itertools.product(words, repeat=3):
        if (one, middle) in bounds and (middle, other) in bounds:
            bound = bounds[one, middle] + bounds[middle, other]
            bounds[one, other] = min(bound, bounds.get((one, other), bound))
    return None if any(bounds.get((word, word), 0) < 0 for word in words) else bounds


def classes(facts):
    """A function that gives for each name and address the one for which it stands, or None."""
    heads = {}

    def head(term):
        while term in heads:
            term = heads[term]
        return term

    for fact in facts:
        if fact[0] == "same":
            one, other = sorted((head(fact[1]), head(fact[2])), key=lambda term: term[0] != "meta")
            if one != other:
                if one[0] != "meta":
                    return None
                heads[one] = other
    for fact in facts:
        if fact[0] == "other" and head(fact[1]) == head(fact[2]):
            return None
        if fact[0] == "lacks" and any(more[0] == "has" and more[1] == fact[1] and head(more[2]) == head(fact[2]) for more in facts):
            return None
    return head


def first_choice(rows, no_nodes, sorts, facts):
    if not rows:
        return sorts, facts
    for more, new in rows[0]:
        if any(sorts.get(word, sort) != sort or (sort == "node" and word in no_nodes) for word, sort in more.items()):
            continue
        if closure(facts + new) is not None and classes(facts + new) is not None:
            found = first_choice(rows[1:], no_nodes, {**sorts, **more}, facts + new)
            if found is not None:
                return found
    return None


def nearest(word, facts):
    bounds = closure(facts)
    high = bounds.get((word, None))
    low = bounds.get((None, word))
    if low is not None and -low > 0:
        return -low
    return high if high is not None and high < 0 else 0


def solve(conditions, order=None, no_nodes=()):
    found = first_choice([cases_of(condition) for condition in conditions], no_nodes, {}, [])
    if found is None:
        return None
    sorts, facts = found
    words = [word for word in order or dict.fromkeys(sum(map(words_of, conditions), [])) if word in sorts]
    solution = {}
    for word in words:
        if sorts[word] == "integer":
            worth = nearest(word, facts)
            facts = facts + [("most", word, None, worth), ("most", None, word, -worth)]
            solution[word] = ("int", worth)
    head = classes(facts)
    plain = [condition[1] if condition[0] == "not" else condition for condition in conditions]
    taken = [part for condition in plain for part in condition[1:] if isinstance(part, tuple)]
    letters = string.ascii_lowercase
    names = [("name", sign) for sign in letters] + [("name", one + other) for one in letters for other in letters]
    new = {"name": iter([name for name in names if name not in taken]),
           "address": iter([("addr", n) for n in range(1000) if ("addr", n) not in taken])}
    heads = {}
    for word in words:
        if sorts[word] in new:
            top = head(("meta", word))
            if top[0] == "meta" and top not in heads:
                heads[top] = next(new[sorts[word]])
            solution[word] = heads.get(top, top)
    for word in words:
        if sorts[word] == "node":
            solution[word] = ("node",)
        if sorts[word] == "map":
            keys = [fact[2] for fact in facts if fact[0] == "has" and fact[1] == word]
            entries = {(solution[key[1]] if key[0] == "meta" else key)[1]: ("int", 0) for key in keys}
            solution[word] = ("map", tuple(sorted(entries.items())))
    return {word: solution[word] for word in words}


def drawn_operand(dice, words):
    pick = dice.random()
    if pick < 0.6:
        return ("meta", dice.choice(words))
    if pick < 0.75:
        return ("sum", dice.choice(words), dice.choice((-3, -2, -1, 1, 2, 3)))
    if pick < 0.85:
        return ("int", dice.randint(-4, 4))
    return ("name", dice.choice("abxy")) if pick < 0.93 else ("addr", dice.randint(0, 2))


def drawn_condition(dice, words):
    pick = dice.random()
    if pick < 0.25:
        condition = (dice.choice(SORTS[:4]), dice.choice(words))
    elif pick < 0.8:
        condition = ("equal" if pick < 0.55 else "less", drawn_operand(dice, words), drawn_operand(dice, words))
    else:
        condition = ("has", dice.choice(words), dice.choice((("name", dice.choice("abxy")), ("meta", dice.choice(words)))))
    return ("not", condition) if dice.random() < 0.5 else condition


def drawn_lists(seed, many, longest, common=()):
    """Lists of conditions over few metavariables, always the same ones for a seed.

    common are conditions on a metavariable w that are added for each metavariable.
    """
    dice = random.Random(seed)
    for _ in range(many):
        words = list("xyzvw")[:dice.randint(1, 5)]
        conditions = [drawn_condition(dice, words) for _ in range(dice.randint(0, longest))]
        yield words, conditions + [renamed(condition, word) for condition in common for word in words]


def renamed(condition, word):
    return tuple(renamed(part, word) if isinstance(part, tuple) else word if part == "w" else part for part in condition)
