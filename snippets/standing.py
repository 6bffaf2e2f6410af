"""How a text stands while it is filled in: what is in each place, their order, where one is."""

from snippets.parts import PLACE, PLAIN, is_named, plain, shown

# The whole text is kept like a place of this name: one is there while nothing is filled in.
WHOLE = -1


# A standing is never changed, each call makes another: so an earlier one can be gone back to.
class Standing:
    def __init__(self, fills, choices, order, at):
        self.fills = fills
        self.choices = choices
        self.order = order
        self.at = at


def bare_text(codes):
    return Standing({WHOLE: [plain(codes)]}, {}, [], WHOLE)


def text_length(standing):
    return count_length(standing.fills, WHOLE, {})


# Counted without putting bytes together: mirrors within mirrors can tell of more than memory holds.
def count_length(fills, name, known):
    if name not in known:
        length = 0
        for part in fills[name]:
            length += len(part.codes) if part.kind == PLAIN else count_length(fills, part.name, known)
        known[name] = length
    return known[name]


# The bytes in each place, and those of the whole text, by name.
def all_values(standing):
    known = {}
    for name in standing.fills:
        find_value(standing.fills, name, known)
    return known


def find_value(fills, name, known):
    if name not in known:
        codes = []
        for part in fills[name]:
            codes.extend(part.codes if part.kind == PLAIN else shown(find_value(fills, part.name, known), part.kind))
        known[name] = codes
    return known[name]


# Of each place and mirror: name, kind, from, to; in the order in which they stand in the text.
def find_spans(standing):
    spans = []
    collect_spans(standing.fills, WHOLE, 0, all_values(standing), spans)
    return spans


def collect_spans(fills, name, begin, known, spans):
    here = begin
    for part in fills[name]:
        if part.kind == PLAIN:
            here += len(part.codes)
            continue
        end = here + len(known[part.name])
        spans.append((part.name, part.kind, here, end))
        if part.kind == PLACE:
            collect_spans(fills, part.name, here, known, spans)
        here = end


# From and to of the place where one is.
def range_at(standing):
    for span in find_spans(standing):
        if span[0] == standing.at and span[1] == PLACE:
            return (span[2], span[3])
    return (0, text_length(standing))


def names_within(fills, name):
    found = []
    for part in fills[name]:
        if part.kind == PLACE:
            found.append(part.name)
            found.extend(names_within(fills, part.name))
    return found


# Other parts in the place where one is: what stood in it is gone, its mirrors elsewhere are bytes.
def refilled(standing, parts):
    known = all_values(standing)
    gone = names_within(standing.fills, standing.at)
    fills = {}
    for name in standing.fills:
        if name not in gone:
            fills[name] = without_mirrors(standing.fills[name], gone, known)
    fills[standing.at] = parts
    choices = {}
    for name in standing.choices:
        if name not in gone:
            choices[name] = standing.choices[name]
    order = [name for name in standing.order if name not in gone]
    return Standing(fills, choices, order, standing.at)


def without_mirrors(parts, gone, known):
    kept = []
    for part in parts:
        if is_named(part) and part.kind != PLACE and part.name in gone:
            kept.append(plain(shown(known[part.name], part.kind)))
        else:
            kept.append(part)
    return kept


def exchanged(standing, start, end, codes):
    value = all_values(standing)[standing.at]
    return refilled(standing, [plain(value[:start] + codes + value[end:])])


def with_snippet(standing, start, end, snippet):
    value = all_values(standing)[standing.at]
    parts = [plain(value[:start])] + snippet.parts + [plain(value[end:])]
    outer = refilled(standing, parts)
    fills = dict(outer.fills)
    fills.update(snippet.fills)
    choices = dict(outer.choices)
    choices.update(snippet.choices)
    # Nothing is in order ahead of the first snippet; else the new places come behind the one where one is.
    behind = outer.order.index(outer.at) + 1 if outer.at != WHOLE else 0
    order = outer.order[:behind] + snippet.order + outer.order[behind:]
    return Standing(fills, choices, order, snippet.order[0])


def moved_to(standing, name):
    return Standing(standing.fills, standing.choices, standing.order, name)


def ended(standing):
    return bare_text(all_values(standing)[WHOLE])
