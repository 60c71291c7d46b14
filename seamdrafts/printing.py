"""Prints a draft in its one form."""

from seamdrafts.grammar import NEGATIVE, PAIR, PARTS, PLACE_NAME, PLACE_WORDS, SUM_NAME, SUM_WORDS
from seamdrafts.texts import bytes_of
from seamdrafts.tokens import NUMBER

# How firmly a sum's printed part holds together: one less firm than is wanted gets parentheses.
SUM = 0
PRODUCT = 1
FACTOR = 2


def at_least(firmness, part):
    """The tokens of a part, in parentheses if it holds together less firmly than this."""
    if part[0] < firmness:
        return ["("] + part[1] + [")"]
    return part[1]


def with_sign(sign, left, right):
    """Two parts with a sign between; the right one is firmer, as sums and products go from the left."""
    if sign in ("+", "-"):
        return (SUM, left[1] + [sign] + at_least(PRODUCT, right))
    return (PRODUCT, at_least(PRODUCT, left) + [sign] + at_least(FACTOR, right))


def with_parts(what, parts):
    """A pair or a word with its parts in its parentheses."""
    tokens = []
    if what != PAIR:
        tokens.append(what)
    for index, part in enumerate(parts):
        tokens.append("(" if index == 0 else ",")
        tokens.extend(part[1])
    tokens.append(")")
    return (FACTOR, tokens)


def tokens_of_steps(steps):
    """The tokens of a sum or a place, with as few parentheses as read the same."""
    parts = []
    for what, text in steps:
        if what in (NUMBER, SUM_NAME, PLACE_NAME):
            parts.append((FACTOR, [text]))
        elif what == NEGATIVE:
            parts.append((FACTOR, ["-"] + at_least(FACTOR, parts.pop())))
        elif what in PARTS:
            begin = len(parts) - len(PARTS[what])
            whole = with_parts(what, parts[begin:])
            parts = parts[:begin] + [whole]
        else:
            right = parts.pop()
            left = parts.pop()
            parts.append(with_sign(what, left, right))
    return parts[0][1]


def tokens_of_piece(name, corners, grain):
    """The tokens of a piece."""
    tokens = ["piece", name]
    for index, corner in enumerate(corners):
        tokens.append("(" if index == 0 else ",")
        tokens.append(corner)
    return tokens + [")", "grain"] + grain


def tokens_of_statement(statement):
    """The tokens of a statement, without its ; behind it."""
    word = statement[0]
    if word == "piece":
        return tokens_of_piece(statement[1], statement[2], statement[3])
    if word == "seam":
        return ["seam"] + statement[1] + [","] + statement[2]
    return [word, statement[1], "="] + tokens_of_steps(statement[2])


def stand_apart(left, right):
    """Whether a blank comes between two tokens that stand side by side."""
    if left == "(" or right in (",", ")", ";"):
        return False
    return not (right == "(" and (left in SUM_WORDS or left in PLACE_WORDS))


def text_of_tokens(tokens):
    """The tokens as one text."""
    signs = []
    for index, token in enumerate(tokens):
        if index > 0 and stand_apart(tokens[index - 1], token):
            signs.append(" ")
        signs.append(token)
    return "".join(signs)


def printed(statements):
    """The printed form of a draft, as bytes."""
    lines = [text_of_tokens(tokens_of_statement(statement) + [";"]) + "\n" for statement in statements]
    return bytes_of("".join(lines))
