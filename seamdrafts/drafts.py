"""The program's calls. Each answers one list: its number, the bytes told, the signed numbers told."""

from seamdrafts.exact import lowest
from seamdrafts.garment import places_one_with
from seamdrafts.grammar import read_draft
from seamdrafts.pattern_lines import pattern_text, places_text, read_pattern
from seamdrafts.pieces import OUTSIDE, exact_area, is_straight_cut, where_lies
from seamdrafts.printing import printed
from seamdrafts.refusals import NoPiece, NoPlace, NoPoint, Refusal, TooFine, TooLong
from seamdrafts.table import read_table
from seamdrafts.texts import bytes_of, text_of
from seamdrafts.working import pattern_of, work_all

LONGEST_TEXT = 4096


def answer(number, told, signed):
    """An answer's list: the number, then how many bytes and they, then how many signed numbers and they."""
    return [number, len(told)] + told + [len(signed)] + signed


def check_lengths(texts):
    """Refuses texts of which one is too long."""
    for text in texts:
        if len(text) > LONGEST_TEXT:
            raise TooLong()


def number_handed_in(above, below):
    """The number of what is above and below the line; NoPoint if it's none in lowest terms, or too fine."""
    if below <= 0 or lowest((above, below)) != (above, below):
        raise NoPoint()
    return (above, below)


def point_handed_in(x_above, x_below, y_above, y_below):
    """The point of x's two and y's two; NoPoint if they are none's."""
    return (number_handed_in(x_above, x_below), number_handed_in(y_above, y_below))


def piece_at(pattern, k):
    """The pattern's piece k; NoPiece if there's none."""
    if k >= len(pattern.pieces):
        raise NoPiece()
    return pattern.pieces[k]


def check_place(pattern, k, point):
    """Refuses a point that isn't in the pattern's piece k nor on its rim."""
    if where_lies(piece_at(pattern, k).corners, point) == OUTSIDE:
        raise NoPlace()


def area_of(found):
    """Twice a piece's area; TooFine if it can't be told."""
    area = exact_area(found.corners)
    if area is None:
        raise TooFine()
    return area


def read(t):
    """How many statements the draft has of which the bytes t are the text."""
    try:
        check_lengths([t])
        statements = read_draft(t)
    except Refusal as e:
        return answer(e.number, [], e.signed)
    return answer(len(statements), [], [])


def print_of(t):
    """The printed form of the draft of which the bytes t are the text."""
    try:
        check_lengths([t])
        statements = read_draft(t)
    except Refusal as e:
        return answer(e.number, [], e.signed)
    told = printed(statements)
    return answer(len(told), told, [])


def value(t, m, name):
    """What the name means behind all statements of the draft t over the table m."""
    try:
        check_lengths([t, m, name])
        statements = read_draft(t)
        work = work_all(statements, read_table(m))
    except Refusal as e:
        return answer(e.number, [], e.signed)
    signed = work.numbers_of(text_of(name))
    # A number is told as 1 with its two, a point as 2 with its four, anything else as 0 with none.
    return answer(len(signed) // 2, [], signed)


def draft(t, m):
    """The text of the pattern that the draft t means over the table m."""
    try:
        check_lengths([t, m])
        statements = read_draft(t)
        pattern = pattern_of(statements, read_table(m))
    except Refusal as e:
        return answer(e.number, [], e.signed)
    told = bytes_of(pattern_text(pattern))
    return answer(len(told), told, [])


def judge(p):
    """How many pieces, seams and hems the pattern has of which the bytes p are the text."""
    try:
        check_lengths([p])
        pattern = read_pattern(p)
    except Refusal as e:
        return answer(e.number, [], e.signed)
    return answer(0, [], [len(pattern.pieces), len(pattern.seams), pattern.hems()])


def piece(k, p):
    """How many corners piece k has of the pattern of which the bytes p are the text, its name, twice its area."""
    try:
        check_lengths([p])
        found = piece_at(read_pattern(p), k)
        area = area_of(found)
    except Refusal as e:
        return answer(e.number, [], e.signed)
    return answer(len(found.corners), bytes_of(found.name), list(area))


def where(k, x_above, x_below, y_above, y_below, p):
    """Where a point lies: 2 strictly inside of piece k, 1 on its rim, 0 outside."""
    try:
        check_lengths([p])
        point = point_handed_in(x_above, x_below, y_above, y_below)
        found = piece_at(read_pattern(p), k)
    except Refusal as e:
        return answer(e.number, [], e.signed)
    return answer(where_lies(found.corners, point), [], [])


def ones(k, x_above, x_below, y_above, y_below, p):
    """The places that are one with a point of piece k, itself too, a line for each."""
    try:
        check_lengths([p])
        point = point_handed_in(x_above, x_below, y_above, y_below)
        pattern = read_pattern(p)
        check_place(pattern, k, point)
        places = places_one_with(pattern, (k, point))
    except Refusal as e:
        return answer(e.number, [], e.signed)
    told = bytes_of(places_text(places))
    return answer(len(told), told, [])


def cut(k, i, j, p):
    """1 if there's a straight cut from corner i of piece k to its corner j, else 0."""
    try:
        check_lengths([p])
        found = piece_at(read_pattern(p), k)
    except Refusal as e:
        return answer(e.number, [], e.signed)
    return answer(1 if is_straight_cut(found.corners, i, j) else 0, [], [])
