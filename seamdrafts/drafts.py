"""The program's calls. Each answers one list: its number, the bytes told, the signed numbers told."""

from seamdrafts.grammar import read_draft
from seamdrafts.pattern import pattern_text
from seamdrafts.printing import printed
from seamdrafts.refusals import Refusal, TooLong
from seamdrafts.table import read_table
from seamdrafts.texts import bytes_of, text_of
from seamdrafts.working import pattern_of, work_all

LONGEST_TEXT = 4096


def answer(number, told, signed):
    """An answer's list: the number, then how many bytes and they, then how many signed numbers and they."""
    return [number, len(told)] + told + [len(signed)] + signed


def check_lengths(texts):
    """Refuses texts of which one is too long."""
    for text in texts:
        if len(text) > LONGEST_TEXT:
            raise TooLong()


def read(t):
    """How many statements the draft has of which the bytes t are the text."""
    try:
        check_lengths([t])
        statements = read_draft(t)
    except Refusal as e:
        return answer(e.number, [], e.signed)
    return answer(len(statements), [], [])


def print_of(t):
    """The printed form of the draft of which the bytes t are the text."""
    try:
        check_lengths([t])
        statements = read_draft(t)
    except Refusal as e:
        return answer(e.number, [], e.signed)
    told = printed(statements)
    return answer(len(told), told, [])


def value(t, m, name):
    """What the name means behind all statements of the draft t over the table m."""
    try:
        check_lengths([t, m, name])
        statements = read_draft(t)
        work = work_all(statements, read_table(m))
    except Refusal as e:
        return answer(e.number, [], e.signed)
    signed = work.numbers_of(text_of(name))
    # A number is told as 1 with its two, a point as 2 with its four, anything else as 0 with none.
    return answer(len(signed) // 2, [], signed)


def draft(t, m):
    """The text of the pattern that the draft t means over the table m."""
    try:
        check_lengths([t, m])
        statements = read_draft(t)
        pattern = pattern_of(statements, read_table(m))
    except Refusal as e:
        return answer(e.number, [], e.signed)
    told = bytes_of(pattern_text(pattern))
    return answer(len(told), told, [])
