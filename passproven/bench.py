"""The bench: languages and passes that are kept by names, with undo and redo, and judgements that are made once."""

from passproven.errors import PassError
from passproven.faults import faults
from passproven.instances import Parting
from passproven.judging import Judgement, judge
from passproven.languages import Language
from passproven.matching import fill
from passproven.origins import source_of
from passproven.passes import BadPass, check_pass, compose, translate
from passproven.sides import follow
from passproven.stepping import run
from passproven.terms import is_word, size

MOST_LANGUAGES = 6
MOST_PASSES = 8


class BenchError(PassError):
    """An error of the bench, with the name that it is about."""

    def __init__(self, name):
        self.name = name


class BadName(BenchError):
    """A name that is not a word."""


class NoLanguage(BenchError):
    """A name that no language has."""


class NoPass(BenchError):
    """A name that no pass has."""


class NoRoom(BenchError):
    """A new name, where there are as many as there may be."""


class InUse(BenchError):
    """The name of a pass that has a language."""


class Broken(BenchError):
    """The name of a pass that would be none any more."""


class NotJoined(BenchError):
    """The name of a pass that does not begin where another one ends."""


class NothingLeft(BenchError):
    """There is nothing to undo, or to redo."""


class Bench:
    """Languages and passes by names."""

    def __init__(self):
        # From names to pairs of a language as it was given and the bench's own one, and from names to tuples
        # (source, target, rows). No dict is changed once it is here, so that those of earlier times can be kept.
        self._languages = {}
        self._passes = {}
        self._undoable = []
        self._redoable = []
        # Pairs of all that a judgement depends on and the judgement.
        self._judgements = []
        self._judged = 0
        self._kept = 0

    def __contains__(self, name):
        return name in self._languages or name in self._passes

    def __len__(self):
        return len(self._undoable)

    def set_language(self, name, language):
        """Defines a language, or replaces the one with this name."""
        _check_name(name, self._languages, MOST_LANGUAGES)
        languages = {**self._languages, name: (language, Language(language.constructors, language.rules))}
        for word in self._passes_of(name):
            source, target, rows = self._passes[word]
            try:
                check_pass(languages[source][1], languages[target][1], rows)
            except BadPass:
                raise Broken(word)
        self._change(languages, self._passes)

    def remove_language(self, name):
        """Removes a language that no pass has."""
        self._language(name)
        users = self._passes_of(name)
        if users:
            raise InUse(users[0])
        self._change({word: self._languages[word] for word in self._languages if word != name}, self._passes)

    def set_pass(self, name, source, target, rows):
        """Defines a pass between two languages, or replaces the one with this name."""
        _check_name(name, self._passes, MOST_PASSES)
        checked = check_pass(self._language(source), self._language(target), rows)
        self._change(self._languages, {**self._passes, name: (source, target, checked)})

    def compose(self, name, first, second):
        """Defines the pass that two passes give together."""
        source, middle, rows = self._pass(first)
        begin, target, others = self._pass(second)
        if middle != begin:
            raise NotJoined(second)
        both = compose(rows, others)
        _check_name(name, self._passes, MOST_PASSES)
        self._change(self._languages, {**self._passes, name: (source, target, both)})

    def remove_pass(self, name):
        """Removes a pass."""
        self._pass(name)
        self._change(self._languages, {word: self._passes[word] for word in self._passes if word != name})

    def undo(self):
        """Brings back what was defined before the last change that was not undone."""
        self._go_back(self._undoable, self._redoable)

    def redo(self):
        """Brings back what the last undo that was not redone took away."""
        self._go_back(self._redoable, self._undoable)

    def language(self, name):
        """The language with a name."""
        own = self._language(name)
        given = self._languages[name][0]
        # The language is handed out as it was given, unless its attributes were assigned since.
        if given.constructors == own.constructors and given.rules == own.rules:
            return given
        return Language(own.constructors, own.rules)

    def rows(self, name):
        """The rows of a pass."""
        return self._pass(name)[2]

    def languages(self):
        """The list of the names of the languages, ascending."""
        return sorted(self._languages)

    def passes(self):
        """The list of the tuples (name, source, target) of the passes, by names ascending."""
        return [(name, self._passes[name][0], self._passes[name][1]) for name in sorted(self._passes)]

    def run(self, name, program, *, steps):
        """How a program of a language runs."""
        return run(self._language(name), program, steps=steps)

    def translated(self, name, term):
        """The translation of a term by a pass."""
        return translate(self.rows(name), term)

    def source(self, name, term):
        """The first source of a term, or None."""
        return source_of(self.rows(name), term)

    def faults(self, name):
        """The list of the faults of a pass."""
        source, target, rows = self._with_languages(name)
        return faults(source, target, rows)

    def follow(self, name, program, *, most, steps):
        """How a program and its translation run side by side."""
        source, target, rows = self._with_languages(name)
        return follow(source, target, rows, program, most=most, steps=steps)

    def judge(self, name, *, most):
        """The judgement of a pass; one that was made of the same is made only once."""
        source, target, rows = self._with_languages(name)
        asked = (source.constructors, source.rules, target.constructors, target.rules, _by_places(rows), most)
        for told, judgement in self._judgements:
            if told == asked:
                self._kept += 1
                return _copied(judgement)
        judgement = judge(source, target, rows, most=most)
        self._judgements.append((asked, judgement))
        self._judged += 1
        return _copied(judgement)

    def work(self):
        """The pair of how many judgements were made since the last call, and how many were there."""
        told = (self._judged, self._kept)
        self._judged = 0
        self._kept = 0
        return told

    def _language(self, name):
        if name not in self._languages:
            raise NoLanguage(name)
        return self._languages[name][1]

    def _pass(self, name):
        if name not in self._passes:
            raise NoPass(name)
        return self._passes[name]

    def _with_languages(self, name):
        """The languages and the rows of a pass."""
        source, target, rows = self._pass(name)
        return (self._language(source), self._language(target), rows)

    def _passes_of(self, language):
        """The ascending list of the passes from or to a language."""
        return [name for name in sorted(self._passes) if language in self._passes[name][:2]]

    def _change(self, languages, passes):
        self._undoable.append((self._languages, self._passes))
        self._redoable = []
        self._languages = languages
        self._passes = passes

    def _go_back(self, states, others):
        """Brings back the last one of some states, and keeps the present one among others."""
        if not states:
            raise NothingLeft(None)
        others.append((self._languages, self._passes))
        self._languages, self._passes = states.pop()


def _check_name(name, present, most):
    """Raises an error if a name is not a word, or new where there is no room."""
    if not is_word(name):
        raise BadName(name)
    if name not in present and len(present) >= most:
        raise NoRoom(name)


def _by_places(rows):
    """The pairs of constructor and template of a pass, the parameters named by their places."""
    listed = []
    for constructor, parameters, template in rows:
        words = {word: ("meta", f"p{place}") for place, word in enumerate(parameters)}
        listed.append((constructor, fill(template, words, most=size(template))))
    return tuple(listed)


def _copied(judgement):
    """Another judgement that tells the same, so that either can be changed by itself."""
    parting = judgement.parting
    if parting is not None:
        parting = Parting(parting.state, parting.rule, parting.following, parting.goal, parting.run)
    return Judgement(judgement.verdict, judgement.faults, parting, judgement.constructor, judgement.paper)
