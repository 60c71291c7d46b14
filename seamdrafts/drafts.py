"""The program's calls. Each answers one list: its number, the bytes told, the signed numbers told."""

from seamdrafts.grammar import read_draft
from seamdrafts.pattern_lines import pattern_text, read_pattern
from seamdrafts.pieces import exact_area
from seamdrafts.printing import printed
from seamdrafts.refusals import NoPiece, Refusal, TooFine, TooLong
from seamdrafts.table import read_table
from seamdrafts.texts import bytes_of, text_of
from seamdrafts.working import pattern_of, work_all

LONGEST_TEXT = 4096


def answer(number, told, signed):
    """An answer's list: the number, then how many bytes and they, then how many signed numbers and they."""
    return [number, len(told)] + told + [len(signed)] + signed


def check_lengths(texts):
    """Refuses texts of which one is too long."""
    for text in texts:
        if len(text) > LONGEST_TEXT:
            raise TooLong()


def piece_at(pattern, k):
    """The pattern's piece k; NoPiece if there's none."""
    if k >= len(pattern.pieces):
        raise NoPiece()
    return pattern.pieces[k]


def area_of(found):
    """Twice a piece's area; TooFine if it can't be told."""
    area = exact_area(found.corners)
    if area is None:
        raise TooFine()
    return area


def read(t):
    """How many statements the draft has of which the bytes t are the text."""
    try:
        check_lengths([t])
        statements = read_draft(t)
    except Refusal as e:
        return answer(e.number, [], e.signed)
    return answer(len(statements), [], [])


def print_of(t):
    """The printed form of the draft of which the bytes t are the text."""
    try:
        check_lengths([t])
        statements = read_draft(t)
    except Refusal as e:
        return answer(e.number, [], e.signed)
    told = printed(statements)
    return answer(len(told), told, [])


def value(t, m, name):
    """What the name means behind all statements of the draft t over the table m."""
    try:
        check_lengths([t, m, name])
        statements = read_draft(t)
        work = work_all(statements, read_table(m))
    except Refusal as e:
        return answer(e.number, [], e.signed)
    signed = work.numbers_of(text_of(name))
    # A number is told as 1 with its two, a point as 2 with its four, anything else as 0 with none.
    return answer(len(signed) // 2, [], signed)


def draft(t, m):
    """The text of the pattern that the draft t means over the table m."""
    try:
        check_lengths([t, m])
        statements = read_draft(t)
        pattern = pattern_of(statements, read_table(m))
    except Refusal as e:
        return answer(e.number, [], e.signed)
    told = bytes_of(pattern_text(pattern))
    return answer(len(told), told, [])


def judge(p):
    """How many pieces, seams and hems the pattern has of which the bytes p are the text."""
    try:
        check_lengths([p])
        pattern = read_pattern(p)
    except Refusal as e:
        return answer(e.number, [], e.signed)
    return answer(0, [], [len(pattern.pieces), len(pattern.seams), pattern.hems()])


def piece(k, p):
    """How many corners piece k has of the pattern of which the bytes p are the text, its name, twice its area."""
    try:
        check_lengths([p])
        found = piece_at(read_pattern(p), k)
        area = area_of(found)
    except Refusal as e:
        return answer(e.number, [], e.signed)
    return answer(len(found.corners), bytes_of(found.name), list(area))
