"""The object that the calls are about: its templates, its text, what is filled in."""

from snippets.reading import Fault
from snippets.standing import WHOLE, all_values, bare_text, ended, exchanged, find_spans, moved_to, range_at
from snippets.standing import text_length, with_snippet
from snippets.templates import LINE_END, NAMES_EACH, Wrong, make_snippet, read_template

MOST_BYTES = 300
MOST_TEMPLATE_BYTES = 60
HIGHEST_TEMPLATE = 9
MOST_PUT_IN = 6
HIGHEST_BYTE = 255
BLANKS = (32, 9)

OUT_OF_RANGE = -1
NO_SUCH = -2
NOT_FILLING_IN = -3
SIX_PUT_IN = -4
TOO_LONG = -5
NOT_TO_BE_HAD = -6
NOTHING_TO_UNDO = -7
WRONG = -900
FAULTY = -1000


class Desk:
    def __init__(self):
        self.templates = {}
        self.put_in = 0
        self.standing = bare_text([])
        self.earlier = []

    def set_text(self, codes):
        if not all_bytes(codes) or len(codes) > MOST_BYTES:
            return [OUT_OF_RANGE]
        self.standing = bare_text(codes)
        self.earlier = []
        return [len(codes)]

    def set_template(self, number, codes):
        if number > HIGHEST_TEMPLATE:
            return [NO_SUCH]
        if not all_bytes(codes) or len(codes) > MOST_TEMPLATE_BYTES:
            return [OUT_OF_RANGE]
        try:
            template = read_template(codes)
        except Fault as fault:
            return [FAULTY - fault.place]
        except Wrong as wrong:
            return [WRONG - wrong.way]
        self.templates[number] = template
        return [len(template.fills)]

    def expand(self, number, start, end):
        if number not in self.templates:
            return [NO_SUCH]
        if not self.is_range(start, end):
            return [OUT_OF_RANGE]
        if self.put_in >= MOST_PUT_IN:
            return [SIX_PUT_IN]
        standing = with_snippet(self.standing, start, end, self.snippet_for(number, start, end))
        if text_length(standing) > MOST_BYTES:
            return [TOO_LONG]
        self.put_in += 1
        return self.step_to(standing)

    def exchange(self, start, end, codes):
        if not self.is_range(start, end) or not all_bytes(codes):
            return [OUT_OF_RANGE]
        standing = exchanged(self.standing, start, end, codes)
        if text_length(standing) > MOST_BYTES:
            return [TOO_LONG]
        return self.step_to(standing)

    def go_on(self):
        if self.standing.at == WHOLE:
            return [NOT_FILLING_IN]
        order = self.standing.order
        coming = order.index(self.standing.at) + 1
        if coming == len(order):
            return self.step_to(ended(self.standing))
        return self.step_to(moved_to(self.standing, order[coming]))

    def go_back(self):
        if self.standing.at == WHOLE:
            return [NOT_FILLING_IN]
        order = self.standing.order
        now = order.index(self.standing.at)
        if now == 0:
            return [NOT_TO_BE_HAD]
        return self.step_to(moved_to(self.standing, order[now - 1]))

    def leave(self):
        if self.standing.at == WHOLE:
            return [NOT_FILLING_IN]
        return self.step_to(ended(self.standing))

    def choose(self, number):
        place = self.standing.at
        if place == WHOLE:
            return [NOT_FILLING_IN]
        if place not in self.standing.choices:
            return [NOT_TO_BE_HAD]
        choices = self.standing.choices[place]
        if number >= len(choices):
            return [NO_SUCH]
        return self.exchange(0, len(all_values(self.standing)[place]), choices[number])

    def tell_text(self):
        codes = all_values(self.standing)[WHOLE]
        return [len(codes)] + codes

    def tell_spans(self):
        if self.standing.at == WHOLE:
            return [NOT_FILLING_IN]
        spans = find_spans(self.standing)
        told = [len(spans)]
        for span in spans:
            told.extend(span)
        return told

    def tell_order(self):
        if self.standing.at == WHOLE:
            return [NOT_FILLING_IN]
        order = self.standing.order
        return [len(order), order.index(self.standing.at)] + order

    # Templates and how many were put in stay as they are: names are not given again.
    def undo(self):
        if self.earlier == []:
            return [NOTHING_TO_UNDO]
        self.standing = self.earlier.pop()
        return self.how_it_stands()

    # A range of the value of the place where one is, or of the text.
    def is_range(self, start, end):
        return start <= end <= len(all_values(self.standing)[self.standing.at])

    def snippet_for(self, number, start, end):
        known = all_values(self.standing)
        selected = known[self.standing.at][start:end]
        blanks = blanks_ahead(known[WHOLE], range_at(self.standing)[0] + start)
        return make_snippet(self.templates[number], self.put_in * NAMES_EACH, selected, blanks)

    # The one way to another standing that can be undone: the one ahead of it is kept here.
    def step_to(self, standing):
        self.earlier.append(self.standing)
        self.standing = standing
        return self.how_it_stands()

    def how_it_stands(self):
        length = text_length(self.standing)
        if self.standing.at == WHOLE:
            return [0, length]
        return [1, length, self.standing.at] + list(range_at(self.standing))


def all_bytes(codes):
    return all([code <= HIGHEST_BYTE for code in codes])


# The blanks with which the line begins in which this place of the text is, those ahead of it alone.
def blanks_ahead(codes, place):
    begin = place
    while begin > 0 and codes[begin - 1] != LINE_END:
        begin -= 1
    end = begin
    while end < place and codes[end] in BLANKS:
        end += 1
    return codes[begin:end]
