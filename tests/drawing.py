"""Languages, passes and programs that are drawn, always the same ones for a seed."""

import random

from building import addr, meta, name, node, num
from passproven.errors import PassError
from passproven.languages import Language
from passproven.passes import check_pass, translate
from passproven.terms import metavariables

VALUES = [("pair", 2, "value", (0, 1)), ("s", 1, "value", (0,)), ("box", 1, "value", ()), ("none", 0, "value", ())]
PLAIN = [("f", 2, "plain", (0, 1)), ("g", 2, "plain", (1,)), ("h", 1, "plain", (0,)), ("k", 0, "plain", ()), ("m", 3, "plain", (2, 0))]
CONSTRUCTORS = VALUES + PLAIN
TABLE = {row[0]: row for row in CONSTRUCTORS}
WORDS = "xyzuvw"


class Drawing:
    def __init__(self, seed):
        self.dice = random.Random(seed)

    def pick(self, listed):
        return self.dice.choice(list(listed))

    def chance(self, share):
        return self.dice.random() < share

    def leaf(self):
        return self.pick((num(self.dice.randint(-1, 2)), name("a"), name("b"), addr(0), addr(1)))

    def pattern(self, depth, words, rows):
        if words and (depth == 0 or self.chance(0.6)):
            return meta(words.pop())
        if depth == 0 or self.chance(0.35):
            return self.leaf()
        row = self.pick(rows)
        inner = VALUES if row in VALUES else CONSTRUCTORS
        return node(row[0], *[self.pattern(depth - 1, words, VALUES if place in row[3] else inner) for place in range(row[1])])

    def operand(self, words):
        if self.chance(0.6):
            return meta(self.pick(words))
        return self.leaf() if self.chance(0.6) else ("sum", self.pick(words), self.pick((-1, 1, 2)))

    def condition(self, words):
        share = self.dice.random()
        if share < 0.45:
            condition = (self.pick(("integer", "name", "address", "map")), self.pick(words))
        elif share < 0.8:
            condition = (self.pick(("equal", "less")), self.operand(words), self.operand(words))
        else:
            condition = ("has", self.pick(words), self.pick((name("a"), meta(self.pick(words)))))
        return ("not", condition) if self.chance(0.25) else condition

    def form(self, depth, words, conditions):
        share = self.dice.random()
        if words and (depth == 0 or share < 0.4):
            return meta(self.pick(words))
        if depth == 0 or share < 0.5:
            return self.leaf()
        if share < 0.6:
            return (self.pick(("plus", "minus")), self.form(depth - 1, words, conditions), self.form(depth - 1, words, conditions))
        if share < 0.68:
            return ("set", self.form(depth - 1, words, conditions), self.form(0, words, conditions), self.form(depth - 1, words, conditions))
        if share < 0.72:
            return ("map", tuple((word, self.form(depth - 1, words, conditions)) for word in self.pick(((), "a", "ab"))))
        there = [condition for condition in conditions if condition[0] == "has"]
        if there and share < 0.85:
            _, mapping, word = self.pick(there)
            return ("get", meta(mapping), word)
        row = self.pick(CONSTRUCTORS)
        return node(row[0], *[self.form(depth - 1, words, conditions) for _ in range(row[1])])

    def action(self, words, conditions):
        if self.chance(0.6):
            return None
        head = self.pick(("new", "read", "write", "put"))
        address = meta(self.pick(words)) if words and self.chance(0.7) else addr(self.dice.randint(0, 1))
        if head == "new":
            return ("new", self.form(1, words, conditions), "n")
        if head == "read":
            return ("read", address, "n")
        if head == "write":
            return ("write", address, self.form(1, words, conditions))
        return ("put", self.form(1, words, conditions))

    def rule(self, number):
        """A rule, most often a wrong one."""
        words = list(WORDS)
        row = self.pick(PLAIN)
        pattern = node(row[0], *[self.pattern(2, words, VALUES if place in row[3] else CONSTRUCTORS) for place in range(row[1])])
        words = metavariables(pattern)
        conditions = tuple(self.condition(words) for _ in range(self.dice.randint(0, 3) if words else 0))
        action = self.action(words, conditions)
        words = words + [action[2]] if action is not None and action[0] in ("new", "read") else words
        return (f"r{number}", pattern, conditions, action, self.form(2, words, conditions))

    def rules(self, many):
        rules = []
        while len(rules) < many:
            rule = self.rule(len(rules))
            if is_right(CONSTRUCTORS, [rule]):
                rules.append(rule)
        return rules

    def language(self, many):
        return Language(CONSTRUCTORS, self.rules(many))

    def image(self, source):
        """A target language and the pass to it that keeps all runs, in one or two steps."""
        constructors, rows, rules = [], [], []
        for word, many, kind, strict in self.dice.sample(CONSTRUCTORS, len(CONSTRUCTORS)):
            order = self.dice.sample(range(many), many)
            constructors.append((f"{word}_", many, kind, tuple(order.index(place) for place in strict)))
            parameters = WORDS[:many]
            template = node(f"{word}_", *[meta(parameters[place]) for place in order])
            if kind == "value" and self.chance(0.3):
                constructors.append((f"{word}_o", 2, "value", (1,)))
                template = node(f"{word}_o", self.leaf(), template)
            if kind == "plain" and self.chance(0.3):
                constructors.append((f"{word}_o", many, kind, constructors[-1][3]))
                rules.append((f"{word}_o", node(f"{word}_o", *template[2]), (), None, template))
                template = node(f"{word}_o", *template[2])
            rows.append((word, tuple(parameters), template))
        names = [row[0] for row in source.constructors]
        rows = sorted(rows, key=lambda row: names.index(row[0]))
        self.dice.shuffle(constructors)
        rules += [self.translated_rule(rows, rules, rule) for rule in source.rules]
        target = Language(constructors, rules)
        return target, check_pass(source, target, rows)

    def translated_rule(self, rows, outer, rule):
        """The rule of the target language; that of a constructor which is entered by a step is the inner one's."""
        word, pattern, conditions, action, result = rule
        pattern = translate(rows, pattern)
        for _, begun, _, _, inner in outer:
            if begun[1] == pattern[1]:
                pattern = node(inner[1], *pattern[2])
        return (word, pattern, conditions, translated_action(rows, action), translated_form(rows, result))

    def changed(self, target):
        """The rules of a language with one changed, left out, put elsewhere, or drawn anew; perhaps wrong ones."""
        rules = list(target.rules)
        at = self.dice.randrange(len(rules))
        word, pattern, conditions, action, result = rules.pop(at)
        share = self.dice.random()
        words = metavariables(pattern) + ([action[2]] if action is not None and action[0] in ("new", "read") else [])
        if share < 0.2:
            return rules
        if share < 0.4:
            rules.insert(self.dice.randrange(len(rules) + 1), (word, pattern, conditions, action, result))
            return rules
        if share < 0.6 and conditions:
            kept = list(conditions)
            del kept[self.dice.randrange(len(kept))]
            conditions = tuple(kept)
        elif share < 0.75:
            conditions = (self.condition(words), *conditions) if words else conditions
        elif share < 0.9:
            result = self.form(2, words, conditions) if self.chance(0.5) else ("plus", result, num(1))
        else:
            action = None if self.chance(0.5) else ("put", num(1))
        rules.insert(at, (word, pattern, conditions, action, result))
        return rules

    def program(self, depth, must_be_value=False):
        share = self.dice.random()
        if depth == 0 or share < 0.15:
            return self.leaf()
        if share < 0.3:
            words = self.pick(((), "a", "ab"))
            return ("map", tuple((word, self.program(depth - 1, True)) for word in words))
        row = self.pick(VALUES if must_be_value else CONSTRUCTORS)
        return node(row[0], *[self.program(depth - 1, must_be_value and place in row[3]) for place in range(row[1])])


def translated_form(rows, form):
    """A result form translated by a pass."""
    if form[0] in ("get", "set", "plus", "minus"):
        return (form[0], *[translated_form(rows, part) for part in form[1:]])
    if form[0] == "map":
        return ("map", tuple((word, translated_form(rows, part)) for word, part in form[1]))
    if form[0] == "node":
        parameters, template = {row[0]: row[1:] for row in rows}[form[1]]
        return filled(template, dict(zip(parameters, [translated_form(rows, part) for part in form[2]])))
    return form


def filled(template, bindings):
    if template[0] == "meta":
        return bindings[template[1]]
    if template[0] == "node":
        return ("node", template[1], tuple(filled(part, bindings) for part in template[2]))
    return template


def translated_action(rows, action):
    if action is None:
        return None
    return tuple(translated_form(rows, part) if isinstance(part, tuple) else part for part in action)


def is_right(constructors, rules):
    try:
        Language(constructors, rules)
    except PassError:
        return False
    return True
