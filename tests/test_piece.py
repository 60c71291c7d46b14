"""Promise 6: piece tells a piece's corners, name and twice its area."""

from seamdrafts.drafts import piece
from tests.asking import FINEST, PATTERN, WORDS, PatternCase, byte_list

SQUARES = "".join("piece p{0} 1 0\n0 0\n{1} 0\n{1} {1}\n0 {1}\n".format(index, index + 1) for index in range(8))


def pattern(*corners):
    """The text of a pattern of one piece with these corners."""
    return "piece p 1 0\n" + "".join("{} {}\n".format(x, y) for x, y in corners) + "end\n"


class PieceTest(PatternCase):
    def assert_area(self, area, *corners):
        """Twice the area, whichever corner is first."""
        rows = list(corners)
        for index in range(len(rows)):
            rows = rows[1:] + rows[:1]
            self.assert_piece(0, pattern(*rows), len(rows), "p", area)

    def assert_too_fine(self, *corners):
        self.assertEqual(self.ask(piece, 0, pattern(*corners)), [-6, 0, 0])
        self.assert_judged(pattern(*corners), 1, 0, len(corners))

    def test_the_answers_shape(self):
        text = byte_list("piece p7 1 0\n0 0\n1 0\n0 1/2\nend\n")
        self.assertEqual(piece(0, text), [3, 2, 112, 55, 2, 1, 2])
        self.assertEqual(piece(1, text), [-4, 0, 0])
        self.assertEqual(piece(0, []), [-2, 0, 2, 0, 0])
        self.assertEqual(piece(0, [10] * 4097), [-1, 0, 0])

    def test_each_piece(self):
        self.assert_piece(0, PATTERN, 4, "front", 24)
        self.assert_piece(1, PATTERN, 3, "back", 12)
        for index in range(8):
            self.assert_piece(index, SQUARES + "end\n", 4, "p" + str(index), 2 * (index + 1) ** 2)

    def test_no_such_piece(self):
        for k in (2, 3, 8, 2 ** 62, 2 ** 63, 18446744073709551615):
            self.assertEqual(self.ask(piece, k, PATTERN), [-4, 0, 0])
        for count in range(1, 9):
            text = "".join(SQUARES.splitlines(True)[:5 * count]) + "end\n"
            self.assert_piece(count - 1, text, 4, "p" + str(count - 1), 2 * count ** 2)
            for k in (count, count + 1, 18446744073709551615):
                self.assertEqual(self.ask(piece, k, text), [-4, 0, 0])

    def test_names(self):
        names = ["a", "Z", "7", "0", "00", "1a", "a" * 16, "9" * 16, "Z9" * 8, "end", "seamed"] + WORDS
        for name in names:
            text = "piece " + name + " 1 0\n0 0\n1 0\n0 1\nend\n"
            self.assert_piece(0, text, 3, name, 1)
            self.assert_piece(1, "piece other 1 0\n0 0\n2 0\n0 1\n" + text, 3, name, 1)

    def test_areas(self):
        self.assert_area(1, (0, 0), (1, 0), (0, 1))
        self.assert_area(2, (0, 0), (1, 0), (1, 1), (0, 1))
        self.assert_area(24, (-1, -2), (3, -2), (3, 1), (-1, 1))
        self.assert_area(18, (0, 0), (4, 1), (2, 5))
        self.assert_area(4, (0, 0), (1, 0), (2, 0), (0, 2))

    def test_areas_of_pieces_that_are_not_convex(self):
        self.assert_area(8, (0, 0), (4, 0), (1, 1), (0, 4))
        self.assert_area(10, (0, 0), (3, 0), (3, 1), (1, 1), (1, 3), (0, 3))
        self.assert_area(14, (0, 0), (3, 0), (3, 3), (2, 3), (2, 1), (1, 1), (1, 3), (0, 3))

    def test_areas_with_fractions(self):
        self.assert_area("1/6", (0, 0), ("1/2", 0), (0, "1/3"))
        self.assert_area("1/4", (0, 0), ("1/2", 0), ("1/2", "1/4"), (0, "1/4"))
        self.assert_area("61/60", ("1/3", "-1/4"), ("4/3", "1/5"), ("1/3", "23/30"))
        self.assert_area(1, ("1/3", "1/7"), ("4/3", "1/7"), ("1/3", "8/7"))
        self.assert_area(3, (0, 0), ("3/2", 0), (0, 2))

    def test_how_many_corners(self):
        for count in range(3, 17):
            corners = [(index, index * index) for index in range(count)]
            self.assert_area(sum(index * (index + 1) for index in range(count - 1)), *corners)

    def test_the_finest_areas(self):
        finest, least = FINEST, "1/{}".format(FINEST)
        self.assert_area(finest, (0, 0), (finest, 0), (0, 1))
        self.assert_area(finest, (0, 0), (finest - 1, -1), (1, 1))
        self.assert_area(least, (0, 0), (least, 0), (0, 1))
        self.assert_area("1/{}".format(FINEST - 1), (0, 0), ("1/{}".format(FINEST - 1), 0), (0, 1))
        self.assert_area("{}/3".format(finest), (0, 0), (finest, 0), (0, "1/3"))
        self.assert_area("3/{}".format(finest), (0, 0), (3, 0), (0, least))
        self.assert_area("{}/{}".format(finest, finest - 1), (0, 0), (finest, 0), (0, "1/{}".format(finest - 1)))

    def test_too_fine(self):
        finest, least = FINEST, "1/{}".format(FINEST)
        self.assert_too_fine((0, 0), (finest, -1), (1, 1))
        self.assert_too_fine((0, 0), (finest, 0), (0, 2))
        self.assert_too_fine((0, 0), (finest, 0), (finest, 1), (0, 1))
        self.assert_too_fine((-finest, -finest), (finest, -finest), (finest, finest), (-finest, finest))
        self.assert_too_fine((0, 0), (least, 0), (0, "1/2"))
        self.assert_too_fine((0, 0), (least, 0), (0, "1/3"))
        self.assert_too_fine((0, 0), (least, 0), (0, least))
        self.assert_too_fine((0, 0), (1, 0), (1, 1), (least, "1/{}".format(FINEST - 1)))
        self.assert_too_fine((0, 0), (finest, 0), (0, "{}/{}".format(finest - 1, finest - 2)))

    def test_too_fine_on_the_way_alone(self):
        far = FINEST
        self.assert_area(1, (far - 1, far - 1), (far, far - 1), (far - 1, far))
        self.assert_area(1, (-far, -far), (1 - far, -far), (-far, 1 - far))
        self.assert_area(far, (0, far - 1), (far, far - 1), (0, far))
        self.assert_area(1, (0, 0), (far, far - 1), (1, 1))
        self.assert_area(1, (0, 0), ("{}/3".format(far), 0), (0, "3/{}".format(far)))

    def test_only_this_pieces_area_counts(self):
        large = "piece large 1 0\n0 0\n{} 0\n0 2\n".format(FINEST)
        small = "piece small 1 0\n0 0\n1 0\n0 1\n"
        self.assert_piece(1, large + small + "end\n", 3, "small", 1)
        self.assert_piece(0, small + large + "end\n", 3, "small", 1)
        self.assertEqual(self.ask(piece, 1, small + large + "end\n"), [-6, 0, 0])
        self.assertEqual(self.ask(piece, 0, large + small + "end\n"), [-6, 0, 0])

    def test_seams_and_grain_do_not_matter(self):
        for more in ("", "seam 0 0 1 0\n", "seam 0 0 0 2\nseam 0 1 0 3\n", "seam 0 3 1 1\nseam 1 0 0 2\n"):
            text = PATTERN.replace("seam 0 0 1 0\n", more)
            self.assert_piece(0, text, 4, "front", 24)
            self.assert_piece(1, text.replace("back 4 0", "back -7/9 1/2"), 3, "back", 12)
