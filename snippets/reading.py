"""Reads the bytes of a template from the left, up to its end or its fault."""

from snippets.parts import CAPITAL, GREAT, MIRROR, PLACE, SMALL, named, plain, selection

DOLLAR = 36
COMMA = 44
SLASH = 47
ZERO = 48
COLON = 58
LETTER_S = 83
BACKSLASH = 92
OPENING = 123
BAR = 124
CLOSING = 125

DIGITS = (48, 49, 50, 51, 52, 53, 54, 55, 56, 57)
DIGITS_S_OPENING = (48, 49, 50, 51, 52, 53, 54, 55, 56, 57, 83, 123)
LETTERS_U_L_C = (117, 108, 99)
LETTER_U = 117
LETTER_L = 108

DEEPEST = 4


class Fault(Exception):
    def __init__(self, place):
        self.place = place


class Reader:
    def __init__(self, codes):
        self.codes = codes
        self.here = 0
        self.fills = {}
        self.choices = {}
        self.filled = []
        self.altered = []
        self.first_told = {}

    # The byte that stands here, if it is one of those that can.
    def take(self, allowed):
        if self.here >= len(self.codes) or self.codes[self.here] not in allowed:
            raise Fault(self.here)
        self.here += 1
        return self.codes[self.here - 1]

    # Reads up to the end or, in a filled place, up to the bracket that closes it.
    def read_parts(self, depth):
        parts = []
        while self.here < len(self.codes):
            code = self.codes[self.here]
            if code == CLOSING and depth > 0:
                break
            self.here += 1
            if code == DOLLAR:
                parts.append(self.read_behind_dollar(depth))
            elif code == BACKSLASH:
                parts.append(plain([self.take((DOLLAR, CLOSING, BACKSLASH))]))
            else:
                parts.append(plain([code]))
        return parts

    def read_behind_dollar(self, depth):
        dollar = self.here - 1
        code = self.take(DIGITS_S_OPENING)
        if code == LETTER_S:
            return selection()
        if code != OPENING:
            return self.tell(code - ZERO)
        number = self.take(DIGITS) - ZERO
        way = self.take((CLOSING, COLON, BAR, SLASH))
        if way == COLON:
            return self.read_filled(number, depth, dollar)
        if way == BAR:
            return self.read_choices(number)
        if way == SLASH:
            return self.read_altered(number)
        return self.tell(number)

    # Told like this it is a mirror, unless nothing fills the place: that is known at the end only.
    def tell(self, number):
        part = named(MIRROR, number)
        if number not in self.first_told:
            self.first_told[number] = part
        return part

    def read_filled(self, number, depth, dollar):
        if depth == DEEPEST:
            raise Fault(dollar)
        self.filled.append(number)
        self.fills[number] = self.read_parts(depth + 1)
        self.take((CLOSING,))
        return named(PLACE, number)

    def read_choices(self, number):
        found = [self.read_choice()]
        while self.take((COMMA, BAR)) == COMMA:
            found.append(self.read_choice())
        self.take((CLOSING,))
        self.filled.append(number)
        self.fills[number] = [plain(found[0])]
        self.choices[number] = found
        return named(PLACE, number)

    def read_choice(self):
        choice = []
        while self.here < len(self.codes) and self.codes[self.here] not in (COMMA, BAR):
            code = self.codes[self.here]
            self.here += 1
            choice.append(self.take((COMMA, BAR, BACKSLASH)) if code == BACKSLASH else code)
        return choice

    def read_altered(self, number):
        letter = self.take(LETTERS_U_L_C)
        self.take((CLOSING,))
        self.altered.append(number)
        return named(kind_of(letter), number)


def kind_of(letter):
    if letter == LETTER_U:
        return GREAT
    return SMALL if letter == LETTER_L else CAPITAL
