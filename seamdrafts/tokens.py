"""Cuts a draft's text into tokens."""

from seamdrafts.texts import text_of

NAME = "name"
NUMBER = "number"
END = "end"
BAD = "bad"

WORDS = (
    "let", "point", "piece", "seam", "grain", "x", "y", "min", "max",
    "between", "meet", "foot", "mirror", "turn", "shift",
)
SIGNS = "(),=+-*/;"

LONGEST_NAME = 16
MOST_DIGITS = 18


def past_blanks(text, at):
    """Where the next token begins, behind blanks, line ends and remarks; the text's length if there is none."""
    while at < len(text) and text[at] in " \n#":
        if text[at] == "#":
            at = past_remark(text, at)
        else:
            at += 1
    return at


def past_remark(text, at):
    """Where the line ends on which a remark begins."""
    end = text.find("\n", at)
    if end < 0:
        return len(text)
    return end


def past_letters(text, at):
    """Where a row of letters and digits ends."""
    while at < len(text) and text[at].isalnum():
        at += 1
    return at


def past_digits(text, at):
    """Where a row of digits ends."""
    while at < len(text) and text[at].isdigit():
        at += 1
    return at


def past_number(text, at):
    """Where a number ends; a point is part of it only with a digit behind it."""
    end = past_digits(text, at)
    if text[end:end + 1] == "." and text[end + 1:end + 2].isdigit():
        return past_digits(text, end + 1)
    return end


def past_token(text, at):
    """Where the token ends that begins at this place, however long it is."""
    if text[at].isalpha():
        return past_letters(text, at)
    if text[at].isdigit():
        return past_number(text, at)
    return at + 1


def kind_of(part):
    """What a token is: a word or a sign itself, else NAME or NUMBER; BAD what is no token or too long a one."""
    if part in WORDS or part in SIGNS:
        return part
    if part[0].isalpha() and len(part) <= LONGEST_NAME:
        return NAME
    if part[0].isdigit() and max([len(row) for row in part.split(".")]) <= MOST_DIGITS:
        return NUMBER
    return BAD


def is_name(text):
    """Whether a text by itself is a name, and no word."""
    return text.isalnum() and kind_of(text) == NAME


def tokens_of(t):
    """The tokens of the bytes t in order, each as kind, text and place; the last is the END."""
    text = text_of(t)
    tokens = []
    at = past_blanks(text, 0)
    while at < len(text):
        end = past_token(text, at)
        tokens.append((kind_of(text[at:end]), text[at:end], at))
        at = past_blanks(text, end)
    tokens.append((END, "", len(text)))
    return tokens
