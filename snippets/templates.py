"""What a template is once it is read, by what it is wrong, and its parts as they are put in."""

from snippets.parts import PLACE, PLAIN, SELECTED, is_named, named, plain
from snippets.reading import Reader

LINE_END = 10
NAMES_EACH = 10


class Wrong(Exception):
    def __init__(self, way):
        self.way = way


class Template:
    def __init__(self, parts, fills, choices):
        self.parts = parts
        self.fills = fills
        self.choices = choices

    # The numbers of its places, in order: 0 comes last.
    def numbers(self):
        return [number for number in range(1, NAMES_EACH) if number in self.fills] + [0]


# A template as it is put in: the same, with names for numbers and bytes for what was selected.
class Snippet:
    def __init__(self, parts, fills, choices, order):
        self.parts = parts
        self.fills = fills
        self.choices = choices
        self.order = order


def read_template(codes):
    reader = Reader(codes)
    parts = reader.read_parts(0)
    stand_where_first_told(reader)
    # Asked ahead of place 0 at the end: by what a template is wrong is asked of what its bytes tell.
    refuse_wrong(reader)
    if 0 not in reader.fills:
        reader.fills[0] = []
        parts.append(named(PLACE, 0))
    return Template(parts, reader.fills, reader.choices)


def stand_where_first_told(reader):
    for number in reader.first_told:
        if number not in reader.fills:
            reader.fills[number] = []
            part = reader.first_told[number]
            part.kind = PLACE


def refuse_wrong(reader):
    if any([reader.filled.count(number) > 1 for number in reader.filled]):
        raise Wrong(1)
    if any([number not in reader.fills for number in reader.altered]):
        raise Wrong(2)
    if goes_round(reader.fills):
        raise Wrong(3)


# Sets aside, again and again, the places filled with nothing but such as are set aside: a ring stays.
def goes_round(fills):
    aside = {}
    before = -1
    while len(aside) > before:
        before = len(aside)
        for number in fills:
            if all([part.name in aside for part in fills[number] if is_named(part)]):
                aside[number] = True
    return len(aside) < len(fills)


def make_snippet(template, first_name, selected, blanks):
    fills = {}
    choices = {}
    for number in template.fills:
        if number in template.choices:
            # A choice's own line ends get no blanks.
            choices[first_name + number] = template.choices[number]
            fills[first_name + number] = template.fills[number]
        else:
            fills[first_name + number] = put_parts(template.fills[number], first_name, selected, blanks)
    parts = put_parts(template.parts, first_name, selected, blanks)
    return Snippet(parts, fills, choices, [first_name + number for number in template.numbers()])


def put_parts(parts, first_name, selected, blanks):
    put = []
    for part in parts:
        if part.kind == PLAIN:
            put.append(plain(indented(part.codes, blanks)))
        elif part.kind == SELECTED:
            put.append(plain(selected))
        else:
            put.append(named(part.kind, first_name + part.name))
    return put


def indented(codes, blanks):
    lines = []
    for code in codes:
        lines.append(code)
        if code == LINE_END:
            lines.extend(blanks)
    return lines
