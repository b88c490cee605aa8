"""Terms as texts: reading a term, and writing its canonical text."""

from passproven.errors import BadTerm, TooDeep, TooLong
from passproven.terms import DIGITS, LETTERS, WORD_CHARACTERS, children, is_word

MOST_TEXT = 4000
MOST_OPEN = 60
MOST_INTEGER = 15
MOST_ADDRESS = 9

_SIGNS = ("(", ")", "{", "}")
_SEPARATORS = " \n"


def read_term(signature, text):
    """The term of a text over a signature."""
    if len(text) > MOST_TEXT:
        raise TooLong("a text is too long")
    reader = Reader(signature, text)
    term = reader.term(0)
    reader.take("end")
    return term


def _end_of_run(text, start, characters):
    end = start
    while end < len(text) and text[end] in characters:
        end += 1
    return end


def _token_end(text, start):
    first = text[start]
    if first in "-@" or first in DIGITS:
        return _end_of_run(text, start + 1, DIGITS)
    if first in "'$" or first in LETTERS:
        return _end_of_run(text, start + 1, WORD_CHARACTERS)
    return start + 1


def _is_number(digits, most):
    if not 1 <= len(digits) <= most or _end_of_run(digits, 0, DIGITS) != len(digits):
        return False
    return digits == "0" or digits[0] != "0"


def _token(piece, position):
    """The token (kind, worth, position) of a piece of text."""
    first, rest = piece[0], piece[1:]
    if piece in _SIGNS:
        return (piece, None, position)
    if first == "'" and is_word(rest):
        return ("name", rest, position)
    if first == "$" and is_word(rest):
        return ("meta", rest, position)
    if first == "@" and _is_number(rest, MOST_ADDRESS):
        return ("addr", int(rest), position)
    if first == "-" and rest != "0" and _is_number(rest, MOST_INTEGER):
        return ("int", -int(rest), position)
    if _is_number(piece, MOST_INTEGER):
        return ("int", int(piece), position)
    if is_word(piece):
        return ("word", piece, position)
    return ("invalid", None, position)


def _tokens_of(text):
    """The list of the tokens, with one for the end of the text."""
    tokens = []
    at = 0
    while at < len(text):
        if text[at] in _SEPARATORS:
            at += 1
        else:
            end = _token_end(text, at)
            tokens.append(_token(text[at:end], at))
            at = end
    tokens.append(("end", None, len(text)))
    return tokens


class Reader:
    """Reads a text token by token, and raises at the first one that does not fit."""

    def __init__(self, signature, text):
        self.signature = signature
        self.tokens = _tokens_of(text)
        self.at = 0

    def take(self, kind):
        """Goes behind the next token and returns its worth, if it is of this kind."""
        found, worth, position = self.tokens[self.at]
        if found != kind:
            raise BadTerm(position)
        self.at += 1
        return worth

    def term(self, depth):
        """Reads a term that stands behind so many open signs."""
        kind, worth, position = self.tokens[self.at]
        if kind in ("int", "name", "addr", "meta"):
            return (kind, self.take(kind))
        if kind == "word" and self.signature.get(worth) == 0:
            return ("node", self.take(kind), ())
        if kind == "{":
            return self.mapping(depth)
        # Without any constructor no term begins with a parenthesis.
        if kind == "(" and self.signature:
            return self.node(depth)
        raise BadTerm(position)

    def node(self, depth):
        """Reads a node that begins with a parenthesis."""
        position = self.tokens[self.at][2]
        self.take("(")
        kind, constructor, place = self.tokens[self.at]
        if kind != "word" or constructor not in self.signature:
            raise BadTerm(place)
        if depth >= MOST_OPEN:
            raise TooDeep(position)
        self.take("word")
        parts = []
        for _ in range(self.signature[constructor]):
            parts.append(self.term(depth + 1))
        self.take(")")
        return ("node", constructor, tuple(parts))

    def mapping(self, depth):
        """Reads a map."""
        if depth >= MOST_OPEN:
            raise TooDeep(self.tokens[self.at][2])
        self.take("{")
        entries = {}
        while self.tokens[self.at][0] == "name" and self.tokens[self.at][1] not in entries:
            word = self.take("name")
            entries[word] = self.term(depth + 1)
        self.take("}")
        return ("map", tuple([(word, entries[word]) for word in sorted(entries)]))


def write_term(term):
    """The canonical text of a term."""
    written = []
    waiting = [term]
    while waiting:
        piece = waiting.pop()
        if isinstance(piece, str):
            written.append(piece)
        else:
            waiting.extend(_pieces(piece)[::-1])
    return "".join(written)


def _pieces(term):
    """The list of the texts and the direct parts that make up the text of a term."""
    if term[0] == "int":
        return [_decimal(term[1])]
    if term[0] == "addr":
        return ["@" + _decimal(term[1])]
    if term[0] == "name":
        return ["'" + term[1]]
    if term[0] == "meta":
        return ["$" + term[1]]
    if term[0] == "map":
        return _pieces_of_map(term)
    head = term[1] if term[0] == "node" else term[0]
    if not children(term):
        return [head]
    pieces = ["(" + head]
    for part in children(term):
        pieces.extend([" ", part])
    pieces.append(")")
    return pieces


def _pieces_of_map(term):
    pieces = ["{"]
    for at, (word, part) in enumerate(term[1]):
        if at:
            pieces.append(" ")
        pieces.extend(["'" + word + " ", part])
    pieces.append("}")
    return pieces


def _decimal(number):
    """The digits of an integer of any length."""
    if number < 0:
        return "-" + _decimal(-number)
    # Python refuses to write integers of some thousand digits at once.
    chunks = []
    while number >= 10 ** 64:
        number, low = divmod(number, 10 ** 64)
        chunks.append(str(low).zfill(64))
    chunks.append(str(number))
    return "".join(chunks[::-1])
