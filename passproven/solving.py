"""Conditions: whether some terms make them true together, and the first such terms."""

from passproven.cases import ADDRESS, INTEGER, MAP, NAME, constants_of, words_of
from passproven.choosing import first_choice
from passproven.terms import LETTERS


def solve(conditions, *, order=None, no_nodes=()):
    """The solution of conditions, a dict from words to terms, or None if no choice is possible."""
    choice = first_choice(conditions, no_nodes)
    if choice is None:
        return None
    first = {word: True for condition in conditions for word in words_of(condition)}
    words = list(first) if order is None else [word for word in order if word in first]
    integers = choice.distances.nearest(_of_sort(choice, words, INTEGER))
    constants = {term: True for condition in conditions for term in constants_of(condition)}
    names = _settled(choice, _of_sort(choice, words, NAME), constants, _nth_name)
    addresses = _settled(choice, _of_sort(choice, words, ADDRESS), constants, _nth_address)
    solution = {}
    for word in words:
        if word in integers:
            solution[word] = ("int", integers[word])
        elif choice.sorts[word] == MAP:
            solution[word] = _map_of(choice, word, names)
        else:
            solution[word] = names.get(word, addresses.get(word, ("node",)))
    return solution


def is_possible(conditions):
    """Whether some terms make all conditions true."""
    return first_choice(conditions, ()) is not None


def follows(conditions, condition):
    """Whether a condition is true wherever all conditions are true."""
    return not is_possible([*conditions, denied(condition)])


def denied(condition):
    """The condition that is true where another one is not."""
    return condition[1] if condition[0] == "not" else ("not", condition)


def _of_sort(choice, words, sort):
    return [word for word in words if choice.sorts[word] == sort]


def _settled(choice, words, constants, nth):
    """A dict from these words to the names or addresses for which they stand; nth makes the new ones."""
    settled = {}
    number = 0
    for word in words:
        if word not in settled:
            alike = list(choice.sameness.reached(("meta", word)))
            given = [term for term in alike if term[0] != "meta"]
            if not given:
                while nth(number) in constants:
                    number += 1
                given = [nth(number)]
                number += 1
            for term in alike:
                # A word may be that of a metavariable and that of a name, too.
                if term[0] == "meta":
                    settled[term[1]] = given[0]
    return settled


def _nth_address(number):
    return ("addr", number)


def _nth_name(number):
    """The name of a number, in the order a to z, aa, ab and so on."""
    signs = ""
    number += 1
    while number > 0:
        number, low = divmod(number - 1, len(LETTERS))
        signs = LETTERS[low] + signs
    return ("name", signs)


def _map_of(choice, word, names):
    """The map that has just the names that a choice says."""
    has = {}
    for term in choice.sameness.names(word):
        name = names[term[1]] if term[0] == "meta" else term
        has[name[1]] = ("int", 0)
    return ("map", tuple([(name, has[name]) for name in sorted(has)]))
