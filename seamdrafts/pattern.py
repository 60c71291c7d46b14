"""A pattern: its pieces and its seams, and what they must be."""

from seamdrafts.exact import alike
from seamdrafts.pieces import are_corners, edge_length

MOST_PIECES = 8

NO_DIRECTION = ((0, 1), (0, 1))


class Piece:
    """A piece: its name, its grain's two numbers, its corners."""

    def __init__(self, name, grain, corners):
        self.name = name
        self.grain = grain
        self.corners = corners


class Pattern:
    """Pieces, and seams of two edges each; an edge is told by its piece and itself, both from 0."""

    def __init__(self):
        self.pieces = []
        self.seams = []

    def has_edge(self, edge):
        """Whether there is such an edge."""
        return edge[0] < len(self.pieces) and edge[1] < len(self.pieces[edge[0]].corners)

    def is_sewn(self, edge):
        """Whether the edge is in a seam."""
        return any([edge in seam for seam in self.seams])

    def sewn_to(self, edge):
        """The edge to which this one is sewn; None if it's in no seam."""
        for first, second in self.seams:
            if edge == first:
                return second
            if edge == second:
                return first
        return None

    def length(self, edge):
        """An edge's length, as its square."""
        return edge_length(self.pieces[edge[0]].corners, edge[1])

    def are_of_one_length(self, first, second):
        """Whether two edges are of the same length."""
        return alike(self.length(first), self.length(second))

    def hems(self):
        """How many edges are in no seam."""
        return sum([len(piece.corners) for piece in self.pieces]) - 2 * len(self.seams)


def pieces_may_be(pattern):
    """Whether the pieces are of names that differ, and each has a direction as its grain and corners that may be."""
    names = [piece.name for piece in pattern.pieces]
    if len(set(names)) < len(names):
        return False
    return all([piece.grain != NO_DIRECTION and are_corners(piece.corners) for piece in pattern.pieces])


def seams_may_be(pattern):
    """Whether each seam is of two edges that are there, of one length and in no other seam."""
    sewn = []
    for first, second in pattern.seams:
        for edge in (first, second):
            if not pattern.has_edge(edge) or edge in sewn:
                return False
            sewn.append(edge)
        if not pattern.are_of_one_length(first, second):
            return False
    return True
