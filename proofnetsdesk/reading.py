"""Reading texts as formulas and as sequents. What can't be read is None."""

from proofnetsdesk.formulas import CLOSING, OPENING, PAR, PLAIN, TENSOR, TURNED, compound, dual
from proofnetsdesk.texts import BLANK, COMMA, pieces_between

MOST_FORMULA_BYTES = 2000
MOST_NAME_BYTES = 12
MOST_OPEN = 100
MOST_FORMULAS = 20

# Among the tokens -o is told by its first byte, like the signs of one byte.
ARROW = 45
SMALL_O = 111


def is_small_letter(byte):
    return 97 <= byte <= 122


def is_digit(byte):
    return 48 <= byte <= 57


def stretch_end(text, start):
    end = start
    while end < len(text) and (is_small_letter(text[end]) or is_digit(text[end])):
        end += 1
    return end


def is_name(stretch):
    return 1 <= len(stretch) <= MOST_NAME_BYTES and is_small_letter(stretch[0])


# Where the token that begins at start ends; start itself if none begins there.
def token_end(text, start):
    if text[start] in (TURNED, TENSOR, PAR, OPENING, CLOSING):
        return start + 1
    if text[start] == ARROW:
        return start + 2 if text[start + 1:start + 2] == [SMALL_O] else start
    end = stretch_end(text, start)
    return end if is_name(text[start:end]) else start


# A token is shaped like a node, so that a name's token is the plain atom of this name.
def token_of(stretch):
    if is_name(stretch):
        return (PLAIN, tuple(stretch))
    return (stretch[0], ())


def cut_tokens(text):
    tokens = []
    start = 0
    while start < len(text):
        if text[start] == BLANK:
            start += 1
        else:
            end = token_end(text, start)
            if end == start:
                return None
            tokens.append(token_of(text[start:end]))
            start = end
    return tokens


# Takes a formula's tokens one by one. A sign waits, with the formula ahead of it, just as long as it is open:
# so no text is too deep for it, and how many signs are open is how many wait.
class Reader:
    def __init__(self):
        self.waiting = []
        # The part that has just ended, or None where a part must begin.
        self.part = None

    def take(self, token):
        if self.part is None:
            fits = self.begin_part(token)
        else:
            fits = self.go_on(token[0])
        return fits and len(self.waiting) <= MOST_OPEN

    def last_sign(self):
        return self.waiting[-1][0] if self.waiting else None

    def begin_part(self, token):
        if token[0] == PLAIN:
            self.end_part([token])
            return True
        if token[0] == OPENING or token[0] == TURNED:
            self.waiting.append((token[0], []))
            return True
        return False

    def end_part(self, part):
        while self.last_sign() == TURNED:
            self.waiting.pop()
            part = dual(part)
        self.part = part

    def go_on(self, sign):
        if sign == CLOSING:
            return self.end_brackets()
        if sign == ARROW:
            self.end_chain()
        elif not self.fits_chain(sign):
            return False
        self.waiting.append((sign, self.part))
        self.part = None
        return True

    def fits_chain(self, sign):
        if sign == TENSOR:
            return self.last_sign() != PAR
        return sign == PAR and self.last_sign() != TENSOR

    def end_brackets(self):
        self.end_formula()
        if self.last_sign() != OPENING:
            return False
        self.waiting.pop()
        self.end_part(self.part)
        return True

    def end_chain(self):
        while self.last_sign() == TENSOR or self.last_sign() == PAR:
            entry = self.waiting.pop()
            self.part = compound(entry[0], entry[1], self.part)

    def end_formula(self):
        self.end_chain()
        while self.last_sign() == ARROW:
            entry = self.waiting.pop()
            self.part = compound(PAR, dual(entry[1]), self.part)

    def whole(self):
        if self.part is None:
            return None
        self.end_formula()
        return None if self.waiting else self.part


def read_formula(text):
    if len(text) > MOST_FORMULA_BYTES:
        return None
    tokens = cut_tokens(text)
    if tokens is None:
        return None
    reader = Reader()
    for token in tokens:
        if not reader.take(token):
            return None
    return reader.whole()


def read_sequent(text):
    if text.count(BLANK) == len(text):
        return []
    pieces = pieces_between(text, COMMA)
    if len(pieces) > MOST_FORMULAS:
        return None
    formulas = []
    for piece in pieces:
        formula = read_formula(piece)
        if formula is None:
            return None
        formulas.append(formula)
    return formulas
