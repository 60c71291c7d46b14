"""The program's calls. Each answers one list: its number, the bytes told, the signed numbers told."""

from seamdrafts.grammar import read_draft
from seamdrafts.printing import printed
from seamdrafts.refusals import Refusal, TooLong

LONGEST_TEXT = 4096


def answer(number, told, signed):
    """An answer's list: the number, then how many bytes and they, then how many signed numbers and they."""
    return [number, len(told)] + told + [len(signed)] + signed


def draft_of(t):
    """The statements of the bytes t; a Refusal if they are too many or no draft's text."""
    if len(t) > LONGEST_TEXT:
        raise TooLong()
    return read_draft(t)


def read(t):
    """How many statements the draft has of which the bytes t are the text."""
    try:
        statements = draft_of(t)
    except Refusal as e:
        return answer(e.number, [], e.signed)
    return answer(len(statements), [], [])


def print_of(t):
    """The printed form of the draft of which the bytes t are the text."""
    try:
        statements = draft_of(t)
    except Refusal as e:
        return answer(e.number, [], e.signed)
    told = printed(statements)
    return answer(len(told), told, [])
