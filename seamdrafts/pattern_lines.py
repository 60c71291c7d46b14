"""A pattern's text, written and read line by line."""

from seamdrafts.exact import number_of, number_text
from seamdrafts.pattern import MOST_PIECES, Pattern, Piece, pieces_may_be, seams_may_be
from seamdrafts.pieces import FEWEST_CORNERS, MOST_CORNERS
from seamdrafts.refusals import NoPattern
from seamdrafts.texts import text_of
from seamdrafts.tokens import LONGEST_NAME


def line_of(words):
    """A line of a pattern's text."""
    return " ".join(words) + "\n"


def point_words(point):
    """The two numbers of a point or a direction, as words."""
    return [number_text(number) for number in point]


def pattern_text(pattern):
    """The text of a pattern."""
    lines = []
    for piece in pattern.pieces:
        lines.append(line_of(["piece", piece.name] + point_words(piece.grain)))
        lines.extend([line_of(point_words(corner)) for corner in piece.corners])
    for seam in pattern.seams:
        lines.append(line_of(["seam"] + [str(number) for number in seam[0] + seam[1]]))
    lines.append(line_of(["end"]))
    return "".join(lines)


def places_text(places):
    """A line for each place: its piece, its point's two numbers."""
    return "".join([line_of([str(piece)] + point_words(point)) for piece, point in places])


def point_of_words(words):
    """The point or direction of two numbers' texts; None if they are none."""
    numbers = [number_of(word) for word in words]
    if len(numbers) != 2 or None in numbers:
        return None
    return (numbers[0], numbers[1])


def index_of_word(word):
    """What a row of digits without noughts in front counts, from 0; None if it's none.

    Three of many digits will do: with them it's past every piece and every edge.
    """
    if not word.isdigit() or (word != "0" and word.startswith("0")):
        return None
    return int(word[:3])


def is_piece_name(word):
    """Whether a word may be a piece's name."""
    return word.isalnum() and len(word) <= LONGEST_NAME


def last_is_whole(pattern):
    """Whether there is a piece, the last with as many corners as it wants."""
    return pattern.pieces != [] and len(pattern.pieces[-1].corners) >= FEWEST_CORNERS


def add_piece(pattern, words):
    """Adds a piece, without corners yet, of a line's words behind its first; whether it can stand there."""
    if len(words) != 3 or not is_piece_name(words[0]):
        return False
    grain = point_of_words(words[1:])
    if grain is None or pattern.seams != [] or len(pattern.pieces) == MOST_PIECES:
        return False
    if pattern.pieces != [] and not last_is_whole(pattern):
        return False
    pattern.pieces.append(Piece(words[0], grain, []))
    return True


def add_corner(pattern, words):
    """Adds a corner to the last piece, of a line's words; whether it can stand there."""
    corner = point_of_words(words)
    if corner is None or pattern.pieces == [] or pattern.seams != []:
        return False
    corners = pattern.pieces[-1].corners
    if len(corners) == MOST_CORNERS:
        return False
    corners.append(corner)
    return True


def add_seam(pattern, words):
    """Adds a seam, of a line's words behind its first; whether it can stand there."""
    numbers = [index_of_word(word) for word in words]
    if len(numbers) != 4 or None in numbers or not last_is_whole(pattern):
        return False
    pattern.seams.append(((numbers[0], numbers[1]), (numbers[2], numbers[3])))
    return True


def add_line(pattern, words):
    """Adds what a line's words tell to the pattern; whether the line can stand there."""
    if words == ["end"]:
        return last_is_whole(pattern)
    if words[0] == "piece":
        return add_piece(pattern, words[1:])
    if words[0] == "seam":
        return add_seam(pattern, words[1:])
    return add_corner(pattern, words)


def read_pattern(p):
    """The pattern of which the bytes p are the text; NoPattern if they are none's."""
    lines = text_of(p).split("\n")
    rest = lines.pop()
    pattern = Pattern()
    ended = False
    for index, line in enumerate(lines):
        words = line.split(" ")
        if ended or not add_line(pattern, words):
            raise NoPattern(index)
        ended = words == ["end"]
    if rest != "" or not ended or not pieces_may_be(pattern) or not seams_may_be(pattern):
        raise NoPattern(len(lines))
    return pattern
