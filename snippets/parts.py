"""The parts that templates, places and the text are made of, and how mirrors change bytes."""

# These five are also the numbers by which a place and its mirrors are told apart in answers.
PLACE = 0
MIRROR = 1
GREAT = 2
SMALL = 3
CAPITAL = 4

PLAIN = 5
SELECTED = 6

CASE_STEP = 32


# Once its template is read, a part is never changed: earlier standings share it with later ones.
class Part:
    def __init__(self, kind, name, codes):
        self.kind = kind
        self.name = name
        self.codes = codes


def plain(codes):
    return Part(PLAIN, None, codes)


def selection():
    return Part(SELECTED, None, [])


# A place, or a mirror of one; its bytes are found by its name, so that they are kept only once.
def named(kind, name):
    return Part(kind, name, [])


def is_named(part):
    return part.kind <= CAPITAL


def great(code):
    return code - CASE_STEP if 97 <= code <= 122 else code


def small(code):
    return code + CASE_STEP if 65 <= code <= 90 else code


# What a place or mirror of this kind shows of a value.
def shown(codes, kind):
    if kind == GREAT:
        return [great(code) for code in codes]
    if kind == SMALL:
        return [small(code) for code in codes]
    if kind == CAPITAL:
        return [great(code) for code in codes[:1]] + [small(code) for code in codes[1:]]
    return codes
