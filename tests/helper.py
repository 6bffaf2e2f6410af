"""Writes calls as the lists of numbers that are handed in, and reads what is answered."""

from snippets.desk import Desk
from snippets.filling import answers, answers_on
from snippets.standing import WHOLE, all_values, find_spans

NEXT = [4]
PREV = [5]


def codes(row):
    return [ord(sign) for sign in row] if isinstance(row, str) else list(row)


def row_of(row):
    return [len(row)] + codes(row)


def text(row):
    return [0] + row_of(row)


def template(number, row):
    return [1, number] + row_of(row)


def expand(number, start, end):
    return [2, number, start, end]


def typing(start, end, row):
    return [3, start, end] + row_of(row)


def joined(calls):
    return [number for call in calls for number in call]


def split(given):
    found = []
    here = 0
    while here < len(given):
        found.append(given[here + 1:here + 1 + given[here]])
        here += 1 + given[here]
    return found


# All answers, each a list.
def ask(*calls):
    return split(answers(joined(calls)))


# The last call's answer alone.
def last(*calls):
    return ask(*calls)[-1]


def desk_after(*calls):
    desk = Desk()
    answers_on(desk, joined(calls))
    return desk


def shown(desk):
    return "".join(chr(code) for code in all_values(desk.standing)[WHOLE])


# The text as it stands behind these calls.
def text_after(*calls):
    return shown(desk_after(*calls))


def spans_after(*calls):
    return find_spans(desk_after(*calls).standing)


def order_after(*calls):
    return desk_after(*calls).standing.order


# The text and how it stands, with the template put into a text without bytes.
def put(row, *calls):
    return text_after(template(0, row), expand(0, 0, 0), *calls)
