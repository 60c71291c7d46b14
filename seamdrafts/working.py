"""Works a draft over a table, statement by statement."""

from seamdrafts.exact import lowest, minus
from seamdrafts.grammar import PLACE_NAME, SUM_NAME, how_many_parts
from seamdrafts.pattern import MOST_PIECES, Pattern, Piece
from seamdrafts.pieces import after, are_corners
from seamdrafts.reckoning import fraction_of_digits, made, place_of, point_of
from seamdrafts.refusals import NotWorked
from seamdrafts.tokens import NUMBER

# What a name may mean.
A_NUMBER = "number"
A_POINT = "point"
A_PIECE = "piece"

# The kinds of a draft's faults.
GIVEN_ALREADY = 1
NOT_THERE = 2
OTHER_SORT = 3
DIVIDED_BY_NOUGHT = 4
NO_SUCH_PLACE = 5
TOO_FINE = 6
NO_CORNERS = 7
NO_MORE_PIECE = 8
NO_EDGE = 9
SEWN_ALREADY = 10
TWO_LENGTHS = 11
NO_PIECE = 12


class Work:
    """What there is behind the statements worked so far: what names mean, and the pattern."""

    def __init__(self, measures):
        self.at = 0
        self.names = {}
        self.pattern = Pattern()
        self.corner_names = []
        for name in measures:
            self.names[name] = (A_NUMBER, measures[name])

    def refuse(self, kind):
        """The statement that is being worked can't be."""
        raise NotWorked(self.at, kind)

    def check_new(self, name):
        """Refuses a name that is there already."""
        if name in self.names:
            self.refuse(GIVEN_ALREADY)

    def meaning(self, name, sort):
        """What a name means that is to be of this sort."""
        if name not in self.names:
            self.refuse(NOT_THERE)
        found = self.names[name]
        if found[0] != sort:
            self.refuse(OTHER_SORT)
        return found[1]

    def numbers_of(self, name):
        """The numbers that a name means: a number's two, a point's four, none of a piece or of no such name."""
        if name not in self.names:
            return []
        found = self.names[name]
        if found[0] == A_NUMBER:
            return list(found[1])
        if found[0] == A_POINT:
            return list(found[1][0] + found[1][1])
        return []

    def kept(self, thing):
        """A number or a point that is not too fine; None is one that is."""
        if thing is None:
            self.refuse(TOO_FINE)
        return thing


def reckoned(work, what, parts):
    """What a step makes of its parts."""
    result = made(what, parts)
    if result is None:
        work.refuse(DIVIDED_BY_NOUGHT if what == "/" else NO_SUCH_PLACE)
    return result


def worked(work, steps):
    """What a sum or a place means, as it's reckoned."""
    parts = []
    for what, text in steps:
        if what == NUMBER:
            parts.append(fraction_of_digits(text))
        elif what == SUM_NAME:
            parts.append(work.meaning(text, A_NUMBER))
        elif what == PLACE_NAME:
            parts.append(place_of(work.meaning(text, A_POINT)))
        else:
            begin = len(parts) - how_many_parts(what)
            result = reckoned(work, what, parts[begin:])
            parts = parts[:begin] + [result]
    return parts[0]


def work_let(work, name, steps):
    """Works a let."""
    work.check_new(name)
    number = lowest(worked(work, steps))
    work.names[name] = (A_NUMBER, work.kept(number))


def work_point(work, name, steps):
    """Works a point."""
    work.check_new(name)
    point = point_of(worked(work, steps))
    work.names[name] = (A_POINT, work.kept(point))


def way_between(a, b):
    """The way from one kept point to another; None if it's too fine."""
    x = lowest(minus(b[0], a[0]))
    y = lowest(minus(b[1], a[1]))
    if x is None or y is None:
        return None
    return (x, y)


def work_piece(work, name, corners, ends):
    """Works a piece: its corners, and the ends of its grain. A name that stands twice is a corner that does."""
    work.check_new(name)
    points = [work.meaning(corner, A_POINT) for corner in corners]
    grain = [work.meaning(end, A_POINT) for end in ends]
    if not are_corners(points):
        work.refuse(NO_CORNERS)
    pieces = work.pattern.pieces
    if len(pieces) == MOST_PIECES or grain[0] == grain[1]:
        work.refuse(NO_MORE_PIECE)
    direction = work.kept(way_between(grain[0], grain[1]))
    work.names[name] = (A_PIECE, len(pieces))
    work.corner_names.append(corners)
    pieces.append(Piece(name, direction, points))


def edge_of(work, told):
    """The edge that a seam tells by a piece and two of its corners."""
    index = work.meaning(told[0], A_PIECE)
    for name in told[1:]:
        work.meaning(name, A_POINT)
    corners = work.corner_names[index]
    for edge, corner in enumerate(corners):
        if corner == told[1] and after(corners, edge) == told[2]:
            return (index, edge)
    return work.refuse(NO_EDGE)


def work_seam(work, first_told, second_told):
    """Works a seam of two edges."""
    pattern = work.pattern
    first = edge_of(work, first_told)
    second = edge_of(work, second_told)
    if first == second or pattern.is_sewn(first) or pattern.is_sewn(second):
        work.refuse(SEWN_ALREADY)
    if not pattern.are_of_one_length(first, second):
        work.refuse(TWO_LENGTHS)
    pattern.seams.append((first, second))


def work_statement(work, statement):
    """Works the statement that is next."""
    word = statement[0]
    if word == "let":
        work_let(work, statement[1], statement[2])
    elif word == "point":
        work_point(work, statement[1], statement[2])
    elif word == "piece":
        work_piece(work, statement[1], statement[2], statement[3])
    else:
        work_seam(work, statement[1], statement[2])


def work_all(statements, measures):
    """What there is behind all statements, over these measures; NotWorked at the first that can't be worked."""
    work = Work(measures)
    for statement in statements:
        work_statement(work, statement)
        work.at += 1
    return work


def pattern_of(statements, measures):
    """The pattern that a draft means over these measures; NotWorked if there's none."""
    work = work_all(statements, measures)
    if work.pattern.pieces == []:
        work.refuse(NO_PIECE)
    return work.pattern
