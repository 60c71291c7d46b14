"""Reads a draft's text by its grammar, up to its end or its fault.

A draft is a list of statements, each a tuple that begins with its word. A sum or a place is a list of
steps (what, text): first the steps of its parts, in order, then what is made of them. So a draft looks
the same whatever blanks, remarks, noughts and needless parentheses its text has.
"""

from seamdrafts.pieces import FEWEST_CORNERS, MOST_CORNERS
from seamdrafts.refusals import NoDraft
from seamdrafts.tokens import BAD, END, NAME, NUMBER, tokens_of

# Steps that no token tells by itself: a number's name, a point's name, a - of a factor, two sums as a point.
SUM_NAME = "name in a sum"
PLACE_NAME = "name of a place"
NEGATIVE = "negative"
PAIR = "pair"

BAD_TOKEN = 1
WRONG_TOKEN = 2

DEEPEST = 6
MOST_STATEMENTS = 128

SUM_WORDS = ("x", "y", "min", "max")
PLACE_WORDS = ("between", "meet", "foot", "mirror", "turn", "shift")

# What stands between the parentheses of a pair and of each word.
PARTS = {
    "pair": ("sum", "sum"),
    "x": ("place",),
    "y": ("place",),
    "min": ("sum", "sum"),
    "max": ("sum", "sum"),
    "between": ("place", "place", "sum"),
    "meet": ("place", "place", "place", "place"),
    "foot": ("place", "place", "place"),
    "mirror": ("place", "place", "place"),
    "turn": ("place", "place", "place", "place"),
    "shift": ("place", "sum", "sum"),
}


def how_many_parts(what):
    """Of how many parts a step makes something; 0 for a name or a number."""
    if what in (SUM_NAME, PLACE_NAME, NUMBER):
        return 0
    if what == NEGATIVE:
        return 1
    if what in PARTS:
        return len(PARTS[what])
    return 2


class Reader:
    """Stands at one token of a text and goes on token by token."""

    def __init__(self, tokens):
        self.tokens = tokens
        self.at = 0

    def here(self):
        """The kind of the token that is next."""
        return self.tokens[self.at][0]

    def refuse(self):
        """The token that is next can't stand there."""
        place = self.tokens[self.at][2]
        if self.here() == BAD:
            raise NoDraft(BAD_TOKEN, place)
        raise NoDraft(WRONG_TOKEN, place)

    def take(self, kind):
        """Goes past a token of this kind and gives its text; any other is the fault."""
        if self.here() != kind:
            self.refuse()
        text = self.tokens[self.at][1]
        self.at += 1
        return text

    def take_names(self, count):
        """Goes past so many names and gives them."""
        return [self.take(NAME) for index in range(count)]


def plain_number(text):
    """A number's digits without the noughts that tell nothing."""
    halves = text.partition(".")
    whole = halves[0].lstrip("0")
    rest = halves[2].rstrip("0")
    if whole == "":
        whole = "0"
    if rest == "":
        return whole
    return whole + "." + rest


def read_sum(reader, depth, steps):
    """Reads a sum that stands this deep and puts its steps behind the others."""
    read_product(reader, depth, steps)
    while reader.here() in ("+", "-"):
        sign = reader.take(reader.here())
        read_product(reader, depth, steps)
        steps.append((sign, ""))


def read_product(reader, depth, steps):
    """Reads a product of a sum that stands this deep."""
    read_factor(reader, depth, steps)
    while reader.here() in ("*", "/"):
        sign = reader.take(reader.here())
        read_factor(reader, depth, steps)
        steps.append((sign, ""))


def read_factor(reader, depth, steps):
    """Reads a factor; at the deepest what would want something deeper is the fault itself."""
    kind = reader.here()
    if kind == NAME:
        steps.append((SUM_NAME, reader.take(NAME)))
    elif kind == NUMBER:
        steps.append((NUMBER, plain_number(reader.take(NUMBER))))
    elif depth == DEEPEST:
        reader.refuse()
    elif kind == "-":
        reader.take("-")
        read_factor(reader, depth + 1, steps)
        steps.append((NEGATIVE, ""))
    elif kind == "(":
        reader.take("(")
        read_sum(reader, depth + 1, steps)
        reader.take(")")
    elif kind in SUM_WORDS:
        reader.take(kind)
        read_parts(reader, kind, depth, steps)
    else:
        reader.refuse()


def read_place(reader, depth, steps):
    """Reads a place that stands this deep and puts its steps behind the others."""
    kind = reader.here()
    if kind == NAME:
        steps.append((PLACE_NAME, reader.take(NAME)))
    elif depth == DEEPEST:
        reader.refuse()
    elif kind == "(":
        read_parts(reader, PAIR, depth, steps)
    elif kind in PLACE_WORDS:
        reader.take(kind)
        read_parts(reader, kind, depth, steps)
    else:
        reader.refuse()


def read_parts(reader, what, depth, steps):
    """Reads the parentheses of a pair or a word and what stands in them, one deeper."""
    reader.take("(")
    for index, part in enumerate(PARTS[what]):
        if index > 0:
            reader.take(",")
        if part == "sum":
            read_sum(reader, depth + 1, steps)
        else:
            read_place(reader, depth + 1, steps)
    reader.take(")")
    steps.append((what, ""))


def read_meaning(reader, word):
    """Reads let or point: a name and what it means."""
    reader.take(word)
    name = reader.take(NAME)
    reader.take("=")
    steps = []
    if word == "let":
        read_sum(reader, 1, steps)
    else:
        read_place(reader, 1, steps)
    return (word, name, steps)


def read_corners(reader):
    """Reads the names of a piece's corners with the commas between them."""
    corners = [reader.take(NAME)]
    while len(corners) < FEWEST_CORNERS or (reader.here() == "," and len(corners) < MOST_CORNERS):
        reader.take(",")
        corners.append(reader.take(NAME))
    return corners


def read_piece(reader):
    """Reads a piece: its name, its corners, its grain's two points."""
    reader.take("piece")
    name = reader.take(NAME)
    reader.take("(")
    corners = read_corners(reader)
    reader.take(")")
    reader.take("grain")
    return ("piece", name, corners, reader.take_names(2))


def read_seam(reader):
    """Reads a seam: of either edge its piece and its two corners."""
    reader.take("seam")
    first = reader.take_names(3)
    reader.take(",")
    return ("seam", first, reader.take_names(3))


def read_statement(reader):
    """Reads a statement, up to the ; behind it."""
    word = reader.here()
    if word in ("let", "point"):
        return read_meaning(reader, word)
    if word == "piece":
        return read_piece(reader)
    if word == "seam":
        return read_seam(reader)
    return reader.refuse()


def read_draft(t):
    """The statements of the bytes t; NoDraft if they are no draft's text."""
    reader = Reader(tokens_of(t))
    statements = []
    while reader.here() != END:
        if len(statements) == MOST_STATEMENTS:
            reader.refuse()
        statements.append(read_statement(reader))
        reader.take(";")
    return statements
