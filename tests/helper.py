"""Writes calls as the lists of numbers that are handed in, and reads what is answered."""

from snippets.filling import answers

NEXT = [4]
PREV = [5]
LEAVE = [7]
SHOWS = [8]
SPANS = [9]
ORDER = [10]
UNDO = [11]


def codes(row):
    return [ord(sign) for sign in row] if isinstance(row, str) else list(row)


def row_of(row):
    return [len(row)] + codes(row)


def text(row):
    return [0] + row_of(row)


def template(number, row):
    return [1, number] + row_of(row)


def expand(number, start, end):
    return [2, number, start, end]


def typing(start, end, row):
    return [3, start, end] + row_of(row)


def choose(number):
    return [6, number]


def joined(calls):
    return [number for call in calls for number in call]


def split(given):
    found = []
    here = 0
    while here < len(given):
        found.append(given[here + 1:here + 1 + given[here]])
        here += 1 + given[here]
    return found


# All answers, each a list.
def ask(*calls):
    return split(answers(joined(calls)))


# The last call's answer alone.
def last(*calls):
    return ask(*calls)[-1]


# What is told behind a count, which must be right.
def counted(answer, size, ahead):
    if len(answer) != ahead + size * answer[0]:
        raise AssertionError(answer)
    return answer[ahead:]


# The text as it stands behind these calls.
def text_after(*calls):
    return "".join(chr(code) for code in counted(last(*calls, SHOWS), 1, 1))


# Of each place and mirror: name, kind, from, to.
def spans_after(*calls):
    told = counted(last(*calls, SPANS), 4, 1)
    return [tuple(told[spot:spot + 4]) for spot in range(0, len(told), 4)]


# The names alone.
def order_after(*calls):
    return counted(last(*calls, ORDER), 1, 2)


# All that can be told of how it stands; what is refused is told as that.
def all_after(*calls):
    return [last(*calls, call) for call in (SHOWS, SPANS, ORDER)]


# The text with the template put into one without bytes, behind these calls.
def put(row, *calls):
    return text_after(template(0, row), expand(0, 0, 0), *calls)
