"""Promise 4: which corners are a piece's, and which are none's."""

import itertools
from fractions import Fraction

from seamdrafts.drafts import draft
from tests.asking import WorkCase, byte_list


def piece_of(corners):
    """A draft of one piece with these corners, each an x and a y as sums."""
    names = ["c" + str(index) for index in range(len(corners))]
    points = ["point {} = ({}, {});\n".format(name, x, y) for name, (x, y) in zip(names, corners)]
    return "".join(points) + "piece p (" + ", ".join(names) + ") grain " + names[0] + " " + names[1] + ";"


def shifted(corners, across, up):
    return [("{} + {}".format(x, across), "{} + {}".format(y, up)) for x, y in corners]


def ways(corners):
    """The way of each edge, and where it begins."""
    ends = corners[1:] + corners[:1]
    return [(a, (b[0] - a[0], b[1] - a[1])) for a, b in zip(corners, ends)]


def cross(v, w):
    return v[0] * w[1] - v[1] * w[0]


def dot(v, w):
    return v[0] * w[0] + v[1] * w[1]


def share(first, second):
    """Whether two edges have a point in common, by how far along the first it would lie."""
    (a, v), (b, w) = first, second
    off = (b[0] - a[0], b[1] - a[1])
    if cross(v, w) != 0:
        return 0 <= Fraction(cross(off, w), cross(v, w)) <= 1 and 0 <= Fraction(cross(off, v), cross(v, w)) <= 1
    if cross(off, v) != 0:
        return False
    begin = Fraction(dot(off, v), dot(v, v))
    end = begin + Fraction(dot(w, v), dot(v, v))
    return min(begin, end) <= 1 and max(begin, end) >= 0


def may_be(corners):
    """Whether whole points are a piece's corners, worked out in another way than the program's."""
    edges = ways(corners)
    count = len(edges)
    for index, (begin, v) in enumerate(edges):
        w = edges[(index + 1) % count][1]
        if v == (0, 0) or (cross(v, w) == 0 and dot(v, w) < 0):
            return False
    for first, second in itertools.combinations(range(count), 2):
        if second - first not in (1, count - 1) and share(edges[first], edges[second]):
            return False
    return sum(cross(a, b) for a, b in zip(corners, corners[1:] + corners[:1])) > 0


class CornersTest(WorkCase):
    def assert_corners(self, *corners):
        """These are a piece's corners, whichever is first; the other way round they are none's."""
        rows = list(corners)
        for index in range(len(rows)):
            rows = rows[1:] + rows[:1]
            text = piece_of(rows)
            self.assertGreater(self.ask(draft, text, "")[0], 0, text)
            self.assert_not_worked(piece_of(rows[::-1]), len(rows), 7)

    def assert_no_corners(self, *corners):
        """These are no piece's corners, whichever is first and whichever way round."""
        rows = list(corners)
        for index in range(len(rows)):
            rows = rows[1:] + rows[:1]
            for row in (rows, rows[::-1], shifted(rows, "1 / 3", "- 2 / 7")):
                self.assert_not_worked(piece_of(row), len(rows), 7)

    def test_triangles(self):
        self.assert_corners((0, 0), (1, 0), (0, 1))
        self.assert_corners((0, 0), (4, 1), (2, 5))
        self.assert_corners(("1 / 3", "- 1 / 7"), ("5 / 2", "0.1"), ("1 / 3", "1 / 9"))
        self.assert_corners((0, 0), (1, 0), (1000, "0.000000000000000001"))
        self.assert_corners((0, 0), (1, "1 / 3"), (1, "1 / 2"))
        self.assert_corners((0, 0), ("1 / 2", 1), ("1 / 3", 1))

    def test_triangles_of_no_area(self):
        self.assert_no_corners((0, 0), (1, 0), (2, 0))
        self.assert_no_corners((0, 0), (2, 2), (1, 1))
        self.assert_no_corners((0, 0), ("1 / 3", "1 / 7"), ("2 / 3", "2 / 7"))
        self.assert_no_corners((0, 0), ("1 / 6", "1 / 14"), ("1 / 3", "1 / 7"))
        self.assert_no_corners(("- 1 / 5", "- 2 / 15"), ("1 / 10", "1 / 15"), ("1 / 4", "1 / 6"))

    def test_not_convex(self):
        self.assert_corners((0, 0), (4, 0), (1, 1), (0, 4))
        self.assert_corners((0, 0), (4, 0), (4, 4), (2, 1), (0, 4))
        self.assert_corners((0, 0), (3, 0), (3, 3), (2, 3), (2, 1), (1, 1), (1, 3), (0, 3))
        self.assert_corners(
            (0, 0), (5, 0), (5, 5), (1, 5), (1, 2), (3, 2), (3, 3), (2, 3), (2, 4), (4, 4), (4, 1), (0, 1),
        )

    def test_corners_in_a_row_on_a_line(self):
        self.assert_corners((0, 0), (1, 0), (2, 0), (0, 2))
        self.assert_corners((0, 0), (1, 0), (2, 0), (1, 1), (0, 2), (0, 1))
        self.assert_corners((0, 0), ("1 / 3", "1 / 7"), ("2 / 3", "2 / 7"), (0, 1))
        self.assert_corners(*[(0, 0)] + [(x, 0) for x in range(1, 15)] + [(0, 1)])

    def test_how_many_corners(self):
        around = [(x, 0) for x in range(5)] + [(4, y) for y in range(1, 5)]
        around += [(x, 4) for x in range(3, -1, -1)] + [(0, y) for y in range(3, 0, -1)]
        self.assertEqual(len(around), 16)
        self.assert_corners(*around)
        self.assert_corners(*around[:15])
        self.assert_corners(*around[::4])
        zigzag = [(x, 4 + x % 2) for x in range(7, -1, -1)]
        self.assert_corners(*[(x, x % 2) for x in range(8)] + zigzag)

    def test_an_edge_with_no_length(self):
        self.assert_no_corners((0, 0), (0, 0), (1, 0), (0, 1))
        self.assert_no_corners((0, 0), (1, 0), (1, 0), (0, 1))
        self.assert_no_corners((0, 0), (1, 0), (0, 1), ("0.0", "2 / 2"))
        self.assert_no_corners((0, 0), (1, 0), (1, 0))
        self.assert_no_corners((0, 0), (0, 0), (0, 0))

    def test_an_edge_that_goes_back(self):
        self.assert_no_corners((0, 0), (2, 0), (1, 0), (1, 1))
        self.assert_no_corners((0, 0), (2, 0), (2, 2), (2, 1))
        self.assert_no_corners((0, 0), (4, 0), (4, 4), (2, 4), (2, 6), (2, 4), (0, 4))
        self.assert_no_corners((0, 0), (4, 0), (4, 4), (2, 2), (6, 6), (0, 4))
        self.assert_no_corners((0, 0), (1, 0), (0, 0), (1, 0))
        self.assert_no_corners((0, 0), (4, 0), (- 1, 0), (0, 2))

    def test_edges_that_cross(self):
        self.assert_no_corners((0, 0), (2, 2), (2, 0), (0, 2))
        self.assert_no_corners((0, 0), (4, 0), (4, 4), (1, - 1), (0, 4))
        self.assert_no_corners((0, 0), (3, 1), (0, 2), (2, 0), (2, 3))
        self.assert_no_corners((0, 3), (2, - 3), (3, 1), (- 3, 1), (- 2, - 3))

    def test_touching_at_a_point(self):
        self.assert_no_corners((0, 0), (4, 0), (4, 4), (2, 0), (0, 4))
        self.assert_no_corners((0, 0), (2, 0), (1, 1), (2, 2), (0, 2), (1, 1))
        self.assert_no_corners((0, 0), (4, 0), (4, 4), (0, 4), (2, 0), (1, 3))
        self.assert_no_corners((0, 0), ("2 / 3", 0), ("2 / 3", 1), ("1 / 3", "0.0"), (0, 1))

    def test_touching_along_an_edge(self):
        self.assert_no_corners((0, 0), (4, 0), (4, 4), (3, 0), (1, 0), (0, 4))
        self.assert_no_corners((0, 0), (4, 0), (4, 2), (2, 2), (2, 0), (1, 0), (1, 2), (0, 2))
        self.assert_no_corners((0, 0), (2, 0), (2, 2), (1, 2), (1, 3), (3, 3), (3, 1), (2, 1), (2, 2), (0, 2))

    def test_nearly_touching(self):
        near = "0.000000000000001"
        self.assert_corners((0, 0), (4, 0), (4, 4), (2, near), (0, 4))
        self.assert_no_corners((0, 0), (4, 0), (4, 4), (2, "- " + near), (0, 4))
        self.assert_corners((0, 0), (2, 0), (2, 2), (1, near), (near, near), (0, 2))

    def test_round_and_round(self):
        self.assert_no_corners((0, 0), (2, 0), (1, 2), (0, 0), (2, 0), (1, 2))
        self.assert_no_corners((0, 0), (5, 0), (5, 5), (1, 5), (1, 1), (4, 1), (4, 6), (0, 6))

    def test_names_of_corners(self):
        text = "point A = (0, 0); point B = (1, 0); point C = (1, 1); point D = (0, 1); point E = A; point F = B;"
        for corners, good in (
            ("A, B, C, D", True), ("E, B, C, D", True), ("B, C, D, A", True), ("A, B, C, A", False),
            ("A, A, B, C", False), ("A, B, B, C", False), ("A, B, C, E", False), ("A, E, B, C", False),
            ("A, B, F, C", False), ("A, B, A, B", False), ("A, B, C, B", False), ("A, B, A", False),
            ("A, B, C, D, A", False), ("A, B, C, D, E", False),
        ):
            statement = text + "piece p (" + corners + ") grain A C;"
            if good:
                self.assertGreater(self.ask(draft, statement, "")[0], 0, corners)
            else:
                self.assert_not_worked(statement, 6, 7)

    def test_far_corners(self):
        table = "f 4611686018427387904\ng -4611686018427387904\n"
        far = "point A = (g, g); point B = (f, g); point C = (f, f); point D = (f, f - 1); point E = (1, 0);"
        for corners, worked in (
            ("A, B, C", True), ("A, D, C", True), ("A, B, D, C", True), ("A, C, D", False), ("A, D, B", False),
            ("A, C, B", False), ("A, E, C", True), ("A, B, E", True), ("A, E, D, C", True), ("A, B, C, E", True),
            ("A, C, E, B", False),
        ):
            text = far + "point G = (2, 1); piece p (" + corners + ") grain E G;"
            if worked:
                self.assertGreater(self.ask(draft, text, table)[0], 0, corners)
            else:
                self.assert_not_worked(text, 6, 7, table)

    def test_all_corners_on_a_small_grid(self):
        grid = [(x, y) for x in range(3) for y in range(3)]
        found = 0
        for rest in itertools.product(grid, repeat=3):
            for first in ((0, 0), (1, 0), (1, 1)):
                corners = [first] + list(rest)
                worked = draft(byte_list(piece_of(corners)), [])[0] > 0
                self.assertEqual(worked, may_be(corners), corners)
                found += worked
        self.assertGreater(found, 100)

    def test_one_corner_elsewhere(self):
        for shape in (
            [(0, 0), (4, 0), (4, 2), (2, 2), (2, 4), (0, 4)],
            [(0, 0), (5, 0), (5, 5), (3, 5), (3, 2), (2, 2), (2, 5), (0, 5)],
            [(0, 0), (2, 1), (4, 0), (3, 2), (4, 4), (2, 3), (0, 4), (1, 2)],
        ):
            found = []
            for index in range(len(shape)):
                for corner in itertools.product(range(- 1, 7), repeat=2):
                    corners = shape[:index] + [corner] + shape[index + 1:]
                    smaller = [("{} / 7".format(x), "{} / 11".format(y)) for x, y in corners]
                    worked = draft(byte_list(piece_of(smaller)), [])[0] > 0
                    self.assertEqual(worked, may_be(corners), corners)
                    found.append(worked)
            self.assertIn(True, found)
            self.assertIn(False, found)
