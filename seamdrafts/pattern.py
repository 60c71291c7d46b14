"""A pattern: its pieces, its seams, its text."""

from seamdrafts.exact import alike, number_text
from seamdrafts.pieces import edge_length

MOST_PIECES = 8


class Piece:
    """A piece: its name, its grain's two numbers, its corners."""

    def __init__(self, name, grain, corners):
        self.name = name
        self.grain = grain
        self.corners = corners


class Pattern:
    """Pieces, and seams of two edges each; an edge is told by its piece and itself, both from 0."""

    def __init__(self):
        self.pieces = []
        self.seams = []

    def is_sewn(self, edge):
        """Whether the edge is in a seam."""
        return any([edge in seam for seam in self.seams])

    def length(self, edge):
        """An edge's length, as its square."""
        return edge_length(self.pieces[edge[0]].corners, edge[1])

    def are_of_one_length(self, first, second):
        """Whether two edges are of the same length."""
        return alike(self.length(first), self.length(second))


def line_of(words):
    """A line of a pattern's text."""
    return " ".join(words) + "\n"


def point_words(point):
    """The two numbers of a point or a direction, as words."""
    return [number_text(number) for number in point]


def pattern_text(pattern):
    """The text of a pattern."""
    lines = []
    for piece in pattern.pieces:
        lines.append(line_of(["piece", piece.name] + point_words(piece.grain)))
        lines.extend([line_of(point_words(corner)) for corner in piece.corners])
    for seam in pattern.seams:
        lines.append(line_of(["seam"] + [str(number) for number in seam[0] + seam[1]]))
    lines.append(line_of(["end"]))
    return "".join(lines)
