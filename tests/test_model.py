"""Long rows of calls, checked against a slow model that is built in another way.

The model reads templates one byte at a time by a table of states. It keeps the text as one flat row of
bytes and brackets, and writes mirrors over and over until each one is as its place.
"""

import random
import unittest

from snippets.desk import Desk
from snippets.filling import answers, answers_on
from tests.helper import split

KINDS = {"u": 2, "l": 3, "c": 4}


class Refused(Exception):
    pass


def refuse(number):
    raise Refused(number)


# A flat row of: a sign; ("lit", sign) for one that gets no blanks; "S"-marks; brackets of what is told.
def read(row):
    out, stack, state, number, choices = [], [], "plain", None, None
    dollar, offers = 0, {}
    for place, sign in enumerate(row):
        if state == "plain":
            if sign == "$":
                dollar, state = place, "dollar"
            elif sign == "\\":
                state = "escape"
            elif sign == "}" and stack:
                out.append(("close", stack.pop(), 0))
            else:
                out.append(sign)
        elif state == "escape":
            if sign not in "$}\\":
                refuse(-1000 - place)
            out.append(sign)
            state = "plain"
        elif state == "dollar":
            if sign == "S":
                out.append(("selected",))
                state = "plain"
            elif sign in "0123456789":
                out += [("open", int(sign), 1), ("close", int(sign), 1)]
                state = "plain"
            elif sign == "{":
                state = "number"
            else:
                refuse(-1000 - place)
        elif state == "number":
            if sign not in "0123456789":
                refuse(-1000 - place)
            number, state = int(sign), "way"
        elif state == "way":
            if sign == ":" and len(stack) == 4:
                refuse(-1000 - dollar)
            if sign == ":":
                stack.append(number)
                out.append(("open", number, 0))
                state = "plain"
            elif sign == "|":
                choices, state = [""], "choice"
            elif sign == "/":
                state = "letter"
            elif sign == "}":
                out += [("open", number, 1), ("close", number, 1)]
                state = "plain"
            else:
                refuse(-1000 - place)
        elif state == "letter":
            if sign not in KINDS:
                refuse(-1000 - place)
            out += [("open", number, KINDS[sign]), ("close", number, KINDS[sign])]
            state = "end"
        elif state == "end":
            if sign != "}":
                refuse(-1000 - place)
            state = "plain"
        elif state == "choice":
            if sign == ",":
                choices.append("")
            elif sign == "|":
                state = "choices end"
            elif sign == "\\":
                state = "choice escape"
            else:
                choices[-1] += sign
        elif state == "choice escape":
            if sign not in ",|\\":
                refuse(-1000 - place)
            choices[-1] += sign
            state = "choice"
        elif state == "choices end":
            if sign != "}":
                refuse(-1000 - place)
            out += [("open", number, 0)] + [("lit", sign) for sign in choices[0]] + [("close", number, 0)]
            offers[number] = choices
            state = "plain"
    if state != "plain" or stack:
        refuse(-1000 - len(row))
    return out, offers


def is_bracket(token, way):
    return token[0] == way and len(token) == 3


def check(tokens):
    opened = [token for token in tokens if is_bracket(token, "open")]
    filled = [token[1] for token in opened if token[2] == 0]
    if len(filled) != len(set(filled)):
        refuse(-901)
    told = {token[1] for token in opened if token[2] in (0, 1)}
    if any(token[1] not in told for token in opened):
        refuse(-902)
    told.add(0)
    within = {number: set() for number in told}
    stack = []
    for token in tokens:
        if is_bracket(token, "open"):
            for outer in stack:
                within[outer].add(token[1])
            if token[2] == 0:
                stack.append(token[1])
        elif is_bracket(token, "close") and token[2] == 0:
            stack.pop()
    for _ in range(10):
        for number in told:
            for inner in list(within[number]):
                within[number] |= within[inner]
    if any(number in within[number] for number in told):
        refuse(-903)
    return told


def stand(tokens):
    places = {token[1] for token in tokens if is_bracket(token, "open") and token[2] == 0}
    out = []
    for token in tokens:
        if is_bracket(token, "open") and token[2] == 1 and token[1] not in places:
            places.add(token[1])
            out.append(("open", token[1], 0))
        elif is_bracket(token, "close") and out[-1:] == [("open", token[1], 0)] and token[2] == 1:
            out.append(("close", token[1], 0))
        else:
            out.append(token)
    return out if 0 in places else out + [("open", 0, 0), ("close", 0, 0)]


def change(row, kind):
    upper = [chr(ord(s) - 32) if "a" <= s <= "z" else s for s in row]
    lower = [chr(ord(s) + 32) if "A" <= s <= "Z" else s for s in row]
    return {1: list(row), 2: upper, 3: lower, 4: upper[:1] + lower[1:]}[kind]


class Model:
    def __init__(self):
        self.templates, self.count, self.tokens, self.order, self.at = {}, 0, [], [], None
        # Of each place by its name, those that are gone too: names are not given again.
        self.offers, self.history = {}, []

    def signs(self, tokens=None):
        return [t for t in (self.tokens if tokens is None else tokens) if len(t) == 1]

    def bounds(self, name):
        if name is None:
            return 0, len(self.tokens)
        return self.tokens.index(("open", name, 0)) + 1, self.tokens.index(("close", name, 0))

    def value(self, name):
        low, high = self.bounds(name)
        return self.signs(self.tokens[low:high])

    def begin(self, name):
        return len(self.signs(self.tokens[:self.bounds(name)[0]]))

    def settle(self):
        again = True
        while again:
            again = False
            for low, token in enumerate(self.tokens):
                if is_bracket(token, "open") and token[2] > 0:
                    high = self.tokens.index(("close",) + token[1:], low)
                    wanted = change(self.value(token[1]), token[2])
                    if self.tokens[low + 1:high] != wanted:
                        self.tokens[low + 1:high] = wanted
                        again = True
                        break
            if len(self.tokens) > 4000:
                refuse(-5)
        if len(self.signs()) > 300:
            refuse(-5)

    def replace(self, new):
        low, high = self.bounds(self.at)
        gone = {t[1] for t in self.tokens[low:high] if is_bracket(t, "open") and t[2] == 0}
        before = [t for t in self.tokens[:low] if len(t) == 1 or t[1] not in gone]
        behind = [t for t in self.tokens[high:] if len(t) == 1 or t[1] not in gone]
        self.tokens = before + new + behind
        self.order = [name for name in self.order if name not in gone]

    def expand(self, number, start, end):
        if number not in self.templates:
            refuse(-2)
        value = self.value(self.at)
        if end < start or end > len(value):
            refuse(-1)
        if self.count == 6:
            refuse(-4)
        ahead = "".join(self.signs())[:self.begin(self.at) + start].split("\n")[-1]
        blanks = ahead[:len(ahead) - len(ahead.lstrip(" \t"))]
        new = []
        tokens, offers = self.templates[number]
        for token in tokens:
            if token == ("selected",):
                new += value[start:end]
            elif token[0] == "lit":
                new.append(token[1])
            elif len(token) == 3:
                new.append((token[0], token[1] + 10 * self.count, token[2]))
            else:
                new += ["\n"] + list(blanks) if token == "\n" else [token]
        self.replace(value[:start] + new + value[end:])
        names = sorted({t[1] for t in new if len(t) == 3}, key=lambda name: (name % 10 == 0, name))
        spot = self.order.index(self.at) + 1 if self.order else 0
        self.order[spot:spot] = names
        self.at = names[0]
        self.offers.update({10 * self.count + place: choices for place, choices in offers.items()})
        self.count += 1
        self.settle()
        return self.stands()

    def exchange(self, start, end, row):
        value = self.value(self.at)
        if end < start or end > len(value):
            refuse(-1)
        self.replace(value[:start] + list(row) + value[end:])
        self.settle()
        return self.stands()

    def choose(self, number):
        self.need_filling_in()
        if self.at not in self.offers:
            refuse(-6)
        if number not in range(len(self.offers[self.at])):
            refuse(-2)
        return self.exchange(0, len(self.value(self.at)), self.offers[self.at][number])

    def need_filling_in(self):
        if self.at is None:
            refuse(-3)

    def leave(self):
        self.need_filling_in()
        self.tokens, self.order, self.at = self.signs(), [], None
        return self.stands()

    def undo(self):
        if not self.history:
            refuse(-7)
        self.tokens, self.order, self.at = self.history.pop()
        return self.stands()

    def shows(self):
        return [len(self.signs())] + [ord(sign) for sign in self.signs()]

    def tell_order(self):
        self.need_filling_in()
        return [len(self.order), self.order.index(self.at)] + self.order

    def move(self, step):
        self.need_filling_in()
        spot = self.order.index(self.at) + step
        if spot < 0:
            refuse(-6)
        if spot == len(self.order):
            return self.leave()
        self.at = self.order[spot]
        return self.stands()

    def stands(self):
        size = len(self.signs())
        if self.at is None:
            return [0, size]
        return [1, size, self.at, self.begin(self.at), self.begin(self.at) + len(self.value(self.at))]

    def set_text(self, row):
        self.tokens, self.order, self.at, self.history = list(row), [], None, []
        return [len(row)]

    def set_template(self, number, row):
        if len(row) > 60:
            refuse(-1)
        tokens, offers = read(row)
        told = check(tokens)
        self.templates[number] = stand(tokens), offers
        return [len(told)]

    def spans(self):
        self.need_filling_in()
        found, size, open_places = [], 0, {}
        for token in self.tokens:
            if len(token) == 1:
                size += 1
            elif token[0] == "open":
                open_places[token[1:]] = len(found)
                found.append((token[1], token[2], size))
            else:
                spot = open_places[token[1:]]
                found[spot] = found[spot] + (size,)
        return [len(found)] + [number for span in found for number in span]

    def answer(self, call):
        kept = dict(self.templates), self.count, dict(self.offers), list(self.history)
        ahead = list(self.tokens), list(self.order), self.at
        try:
            answer = self.take(call)
        except Refused as refused:
            self.templates, self.count, self.offers, self.history = kept
            self.tokens, self.order, self.at = ahead
            return [refused.args[0]]
        if call[0] in (2, 3, 4, 5, 6, 7):
            self.history.append(ahead)
        return answer

    def take(self, call):
        if call[0] in (4, 5):
            return self.move(1 if call[0] == 4 else -1)
        return (self.set_text, self.set_template, self.expand, self.exchange, None, None, self.choose, self.leave,
                self.shows, self.spans, self.tell_order, self.undo)[call[0]](*call[1:])


PIECES = ["a", "B", "\n", " ", "\t", "\\$", "\\}", "$S", "zQ", "$%", "${%}", "${%/u}", "${%/l}", "${%/c}",
          "${%|a,b,cdEfgh|}", "${%|x\ny,|}", "${%|\\,\\|\\\\|}"]


def make_row(chance, deep, most):
    row = ""
    for _ in range(chance.randint(0, most)):
        if deep and chance.random() < 0.3:
            row += "${%:" + make_row(chance, deep - 1, 3) + "}"
        else:
            row += chance.choice(PIECES)
    return row


def make_template(chance):
    row = make_row(chance, chance.choice((1, 2, 2, 3, 5)), 6)
    numbers = chance.choice(("01", "123", "0123456789"))
    row = "".join(chance.choice(numbers) if sign == "%" else sign for sign in row)
    if chance.random() < 0.15:
        spot = chance.randint(0, len(row))
        row = row[:spot] + chance.choice("$}{\\|/:,1u") * chance.randint(0, 1) + row[spot + chance.randint(0, 1):]
    return row


# Most are right ones with two places or more; what would be refused is handed in only now and then.
def make_row_to_set(chance):
    row = make_template(chance)
    while chance.random() < 0.9 and Model().answer((1, 0, row))[0] < 2:
        row = make_template(chance)
    return row


def make_range(chance, model):
    size = len(model.value(model.at))
    start = chance.randint(0, size)
    return start, chance.randint(start, size) + (chance.random() < 0.03) - (chance.random() < 0.03)


ANY = (0, 1, 1, 2, 3, 4, 5, 6, 7, 8, 9, 10, 11)


# What is likely to be taken as it stands, most of the time.
def make_way(chance, model):
    if chance.random() < 0.25:
        return chance.choice(ANY)
    if model.at is None:
        return chance.choice((0, 2, 2, 2, 3, 11))
    if model.at in model.offers:
        return chance.choice((2, 3, 4, 5, 6, 6, 6, 11))
    return chance.choice((2, 3, 3, 4, 4, 4, 5, 5, 11))


def make_call(chance, model):
    way = make_way(chance, model)
    if way == 0:
        return (0, "".join(chance.choice("ab \t\n") for _ in range(chance.choice((0, 5, 20, 294)))))
    if way == 1:
        return (1, chance.randint(0, 3), make_row_to_set(chance))
    if way in (2, 3):
        start, end = make_range(chance, model)
        end = max(end, 0)
        # Now and then so many that the text is nearly or just full.
        room = max(0, 300 - len(model.signs()) + end - start - chance.choice((0, 1, 2, 5)))
        row = "".join(chance.choice("xyZ \n") for _ in range(chance.choice((0, 1, 2, 5, 40, room))))
        return (2, chance.randint(0, 3), start, end) if way == 2 else (3, start, end, row)
    return (6, chance.choice((0, 1, 1, 2))) if way == 6 else (way,)


def as_numbers(call):
    numbers = []
    for value in call:
        numbers += [len(value)] + [ord(sign) for sign in value] if isinstance(value, str) else [value]
    return numbers


TELLING = ((8,), (9,), (10,))


class ModelTest(unittest.TestCase):
    def check_call(self, model, desk, call, told):
        answer = model.answer(call)
        self.assertEqual(answers_on(desk, as_numbers(call)), [len(answer)] + answer, told)
        return [len(answer)] + answer

    # Each call's answer, and behind each call all that can be told; then the same calls in one list.
    def check_walk(self, seed):
        chance = random.Random(seed)
        model, desk, calls, given = Model(), Desk(), [], []
        for spot in range(40):
            call = (1, spot, make_row_to_set(chance)) if spot < 4 else make_call(chance, model)
            calls.append(call)
            given += self.check_call(model, desk, call, (seed, calls))
            for asked in TELLING:
                self.check_call(model, desk, asked, (seed, calls, asked))
        numbers = [number for call in calls for number in as_numbers(call)]
        handed = list(numbers)
        self.assertEqual(answers(handed), given, (seed, calls))
        self.assertEqual(handed, numbers)
        return [(call[0], answer) for call, answer in zip(calls, split(given))]

    def test_walks(self):
        seen = {}
        for seed in range(400):
            for number, answer in self.check_walk(seed):
                told = "refused", answer[0] if answer[0] > -900 else answer[0] // 100
                seen.setdefault((number,) + (told if answer[0] < 0 else ("taken",)), seed)
        # The walks are worth little if a call is never taken or one of its refusals never met.
        for number in range(12):
            self.assertIn((number, "taken"), seen)
        for number, refusal in ((2, -2), (2, -1), (2, -4), (2, -5), (3, -1), (3, -5), (4, -3), (5, -3), (5, -6),
                                (6, -3), (6, -6), (6, -2), (6, -5), (7, -3), (9, -3), (10, -3), (11, -7)):
            self.assertIn((number, "refused", refusal), seen)


if __name__ == "__main__":
    unittest.main()
