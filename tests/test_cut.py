"""Promise 9: cut tells whether there's a straight cut from one corner of a piece to another."""

from fractions import Fraction

from seamdrafts.drafts import cut
from tests.asking import FINEST, PATTERN, PatternCase, byte_list, pattern_of, pattern_of_length

FARTHEST = 18446744073709551615
NEAR = Fraction(1, 2 ** 60)
TRIANGLE = [(0, 0), (4, 0), (0, 4)]
SQUARE = [(0, 0), (1, 0), (1, 1), (0, 1)]


def all_but_edges(count):
    """The pairs of so many corners that aren't next to one another."""
    pairs = [(i, j) for i in range(count) for j in range(i + 2, count)]
    pairs.remove((0, count - 1))
    return pairs


class CutCase(PatternCase):
    def assert_cut(self, wanted, k, i, j, text):
        """There's a cut from corner i to corner j of the pattern's piece k, or none; either one first."""
        self.assertEqual(self.ask(cut, k, i, j, text), [wanted, 0, 0], (k, i, j, text))
        self.assertEqual(self.ask(cut, k, j, i, text), [wanted, 0, 0], (k, j, i, text))

    def assert_cuts_from(self, begin, corners, pairs):
        """These pairs of corners have a straight cut and no others, with the row begun at this one."""
        count = len(corners)
        text = pattern_of([corners[begin:] + corners[:begin]])
        for i in range(count):
            for j in range(i, count):
                wanted = 1 if (i, j) in pairs else 0
                self.assert_cut(wanted, 0, (i - begin) % count, (j - begin) % count, text)

    def assert_cuts(self, corners, pairs):
        """The same, whichever corner the row begins with."""
        for begin in range(len(corners)):
            self.assert_cuts_from(begin, corners, pairs)

    def assert_cuts_moved(self, corners, *pairs):
        """The same, each pair told as a text, wherever the piece is turned, grown and shifted to."""
        told = [tuple(int(corner) for corner in pair.split("-")) for pair in pairs]
        self.assert_cuts(corners, told)
        for turned in (1, 2, 3):
            corners = [(-y, x) for x, y in corners]
            grown = [(x * Fraction(2, 3) + turned, y * Fraction(2, 3) - Fraction(22, 7)) for x, y in corners]
            self.assert_cuts_from(turned % len(corners), grown, told)


class CutTest(CutCase):
    def test_the_answers_shape(self):
        text = byte_list("piece p 1 0\n0 0\n1 0\n1 1\n0 1\nend\n")
        self.assertEqual(cut(0, 0, 2, text), [1, 0, 0])
        self.assertEqual(cut(0, 3, 1, text), [1, 0, 0])
        self.assertEqual(cut(0, 0, 1, text), [0, 0, 0])
        self.assertEqual(cut(0, 0, 4, text), [0, 0, 0])
        self.assertEqual(cut(1, 0, 2, text), [-4, 0, 0])
        self.assertEqual(cut(0, 0, 2, text[:-1]), [-2, 0, 2, 5, 0])
        self.assertEqual(cut(0, 0, 2, []), [-2, 0, 2, 0, 0])
        self.assertEqual(cut(0, 0, 2, [10] * 4097), [-1, 0, 0])

    def test_each_piece(self):
        squares = [[(x, x), (x + 1, x), (x + 1, x + 1), (x, x + 1)] for x in range(0, 16, 2)]
        for count in range(1, 9):
            text = pattern_of(squares[:count])
            for k in range(count):
                self.assert_cut(1, k, 0, 2, text)
                self.assert_cut(0, k, 0, 3, text)
            for k in (count, count + 1, FARTHEST):
                self.assert_cut(-4, k, 0, 2, text)

    def test_pieces_of_other_cuts(self):
        text = pattern_of([TRIANGLE, SQUARE, [(0, 0), (3, 0), (3, 1), (1, 1), (1, 3), (0, 3)]])
        for k, i, j, wanted in (
            (0, 0, 2, 0), (1, 0, 2, 1), (2, 0, 2, 1), (0, 1, 3, 0), (1, 1, 3, 1), (2, 1, 3, 1), (1, 0, 4, 0),
            (2, 0, 4, 1), (2, 2, 4, 0), (1, 3, 5, 0), (2, 3, 5, 1),
        ):
            self.assert_cut(wanted, k, i, j, text)

    def test_seams_and_grain_do_not_matter(self):
        for more in ("", "seam 0 0 1 0\n", "seam 0 0 0 2\nseam 0 1 0 3\n", "seam 0 3 1 1\nseam 1 0 0 2\n"):
            text = PATTERN.replace("seam 0 0 1 0\n", more).replace("front 0 3", "front -7/9 1/2")
            self.assert_cut(1, 0, 0, 2, text)
            self.assert_cut(1, 0, 1, 3, text)
            self.assert_cut(0, 0, 0, 3, text)
            self.assert_cut(0, 1, 0, 2, text)

    def test_no_such_piece(self):
        for k in (2, 3, 8, 2 ** 62, 2 ** 63, FARTHEST):
            for i, j in ((0, 2), (0, 0), (0, 1), (0, 9), (FARTHEST, FARTHEST)):
                self.assert_cut(-4, k, i, j, PATTERN)

    def test_no_such_corner(self):
        for count in range(3, 17):
            text = pattern_of([[(x, x * x) for x in range(count)]])
            self.assert_cut(1 if count > 3 else 0, 0, count - 1, 1, text)
            for missing in (count, count + 1, count + 2, 2 * count, 16, 2 ** 62, 2 ** 63, FARTHEST - 1, FARTHEST):
                for there in (0, 1, 2, count - 2, count - 1, missing, FARTHEST):
                    self.assert_cut(0, 0, there, max(missing, count), text)

    def test_the_same_corner_and_the_next(self):
        for count in range(3, 17):
            text = pattern_of([[(x, x * x) for x in range(count)]])
            for i in range(count):
                self.assert_cut(0, 0, i, i, text)
                self.assert_cut(0, 0, i, (i + 1) % count, text)


class ConvexTest(CutCase):
    def test_a_triangle(self):
        self.assert_cuts_moved(TRIANGLE)

    def test_a_square(self):
        self.assert_cuts_moved(SQUARE, "0-2", "1-3")

    def test_all_pairs_of_corners(self):
        for count in range(3, 17):
            corners = [(x, x * x) for x in range(count)]
            for begin in (0, 1, count - 1):
                self.assert_cuts_from(begin, corners, all_but_edges(count))

    def test_three_corners_on_a_line(self):
        self.assert_cuts_moved([(0, 0), (2, 0), (4, 0), (0, 4)], "1-3")
        self.assert_cuts_moved([(0, 0), (1, 0), (2, 0), (3, 0), (3, 3)], "1-4", "2-4")

    def test_each_edge_with_a_corner_in_its_midst(self):
        self.assert_cuts_moved(
            [(0, 0), (2, 0), (4, 0), (4, 2), (4, 4), (2, 4), (0, 4), (0, 2)],
            "0-3", "0-4", "0-5", "1-3", "1-4", "1-5", "1-6", "1-7", "2-5", "2-6", "2-7", "3-5", "3-6", "3-7", "4-7",
            "5-7",
        )

    def test_nothing_but_corners_on_three_lines(self):
        self.assert_cuts_moved(
            [(0, 0), (3, 0), (6, 0), (4, 2), (2, 4), (0, 6), (0, 3)],
            "0-3", "0-4", "1-3", "1-4", "1-5", "1-6", "2-6", "3-6", "4-6",
        )


class NotConvexTest(CutCase):
    def test_two_strips(self):
        self.assert_cuts_moved(
            [(0, 0), (3, 0), (3, 1), (1, 1), (1, 3), (0, 3)],
            "0-2", "0-3", "0-4", "1-3", "3-5",
        )

    def test_outside(self):
        """A dart's cut goes inside from tip to hollow, and outside between its wings."""
        self.assert_cuts_moved([(0, 0), (4, -4), (2, 0), (4, 4)], "0-2")

    def test_a_hollow(self):
        self.assert_cuts_moved(
            [(0, 0), (6, 0), (6, 4), (4, 4), (4, 2), (2, 2), (2, 4), (0, 4)],
            "0-4", "0-5", "0-6", "1-3", "1-4", "1-5", "2-4", "5-7",
        )

    def test_a_middle_on_the_rim(self):
        """From the first corner to the third the cut's middle is the fourth corner."""
        self.assert_cuts_moved([(0, 0), (4, 0), (4, 4), (2, 2), (0, 4)], "0-3", "1-3")

    def test_a_middle_on_the_rim_with_all_else_outside(self):
        """Between the outer two of three tops all is outside, but the third in the middle."""
        self.assert_cuts_moved(
            [(0, 0), (8, 0), (8, 4), (6, 2), (4, 4), (2, 2), (0, 4)],
            "0-3", "0-5", "1-3", "1-5", "3-5",
        )

    def test_a_middle_on_an_edge(self):
        """From the first corner to the third the cut's middle lies in the midst of the tooth's edge."""
        self.assert_cuts_moved(
            [(0, 0), (4, -6), (8, 0), (8, 4), (5, 4), (3, -4), (2, 4), (0, 4)],
            "0-5", "0-6", "1-3", "1-4", "1-5", "2-4", "2-5", "3-5", "5-7",
        )

    def test_through_a_corner(self):
        """From the first corner to the third the cut touches the notch's tip, with its own middle inside."""
        self.assert_cuts_moved(
            [(0, 0), (6, 0), (6, 6), (3, 5), (2, 2), (1, 6), (0, 6)],
            "0-4", "0-5", "1-3", "1-4", "2-4", "4-6",
        )

    def test_along_an_edge(self):
        """From the first corner to the third the cut goes along the notch's bottom, with its own middle inside."""
        self.assert_cuts_moved(
            [(0, 2), (3, 0), (6, 2), (6, 4), (2, 4), (2, 2), (1, 2), (1, 4), (0, 4)],
            "0-6", "0-7", "1-3", "1-4", "1-5", "1-6", "2-4", "2-5", "3-5", "6-8",
        )

    def test_across_edges(self):
        """The same with a notch that the cut goes across."""
        self.assert_cuts_moved(
            [(0, 2), (3, 0), (6, 2), (6, 4), (2, 4), (2, 1), (1, Fraction(3, 2)), (1, 4), (0, 4)],
            "0-6", "0-7", "1-3", "1-4", "1-5", "1-6", "2-4", "2-5", "3-5", "6-8",
        )

    def test_level_edges_on_one_line(self):
        """Corners level with one another, with edges between them that lie level, too."""
        self.assert_cuts_moved(
            [(0, 0), (8, 0), (8, 6), (6, 6), (6, 4), (5, 4), (5, 6), (3, 6), (3, 4), (2, 4), (2, 6), (0, 6)],
            "0-4", "0-5", "0-6", "0-8", "0-9", "0-10", "1-3", "1-4", "1-5", "1-7", "1-8", "1-9", "2-4", "5-7",
            "5-8", "6-8", "9-11",
        )

    def test_a_star(self):
        self.assert_cuts_moved(
            [(0, 4), (3, 3), (4, 0), (5, 3), (8, 4), (5, 5), (4, 8), (3, 5)],
            "0-3", "0-4", "0-5", "1-3", "1-4", "1-5", "1-6", "1-7", "2-5", "2-6", "2-7", "3-5", "3-6", "3-7", "4-7",
            "5-7",
        )

    def test_a_winding_strip(self):
        self.assert_cuts_moved(
            [
                (0, 0), (8, 0), (8, 7), (2, 7), (2, 3), (5, 3), (5, 4), (3, 4), (3, 6), (7, 6), (7, 1), (1, 1),
                (1, 8), (0, 8),
            ],
            "0-10", "0-11", "0-12", "1-9", "1-10", "1-11", "2-8", "2-9", "2-10", "3-7", "3-8", "3-9", "4-6", "4-7",
            "4-8", "5-7", "11-13",
        )

    def test_a_tip_that_hinders_some(self):
        self.assert_cuts_moved(
            [(0, 0), (4, -3), (8, 0), (8, 3), (5, 3), (3, -1), (2, 3), (0, 3)],
            "0-5", "0-6", "1-3", "1-4", "1-5", "1-7", "2-4", "2-5", "3-5", "5-7",
        )


class FineTest(CutCase):
    """Tips and corners that miss a cut by less than can be seen, and pieces as far as can be."""

    def assert_cut_by_tip(self, wanted, middle, tip):
        """A notch comes down to this tip, and the cut from (0, 2) to (6, 2) is there or not."""
        text = pattern_of([[(0, 2), (3, 0), (6, 2), (6, 4), (middle + 1, 4), (middle, tip), (0, 4)]])
        self.assert_cut(wanted, 0, 0, 2, text)
        self.assert_cut(1, 0, 1, 5, text)

    def test_a_tip_in_the_midst(self):
        for middle in (Fraction(1, 2), 1, 2, 3, 4, Fraction(9, 2)):
            for tip, wanted in ((2, 0), (2 - NEAR, 0), (2 + NEAR, 1), (3, 1), (1 + Fraction(4, 5), 0)):
                self.assert_cut_by_tip(wanted, middle, tip)

    def test_a_tip_near_the_cuts_end(self):
        for corner in (NEAR - 3, 3 - NEAR):
            for tip, wanted in ((2, 0), (2 + NEAR, 1)):
                self.assert_cut(wanted, 0, 0, 2, pattern_of([[
                    (-3, 2), (0, 0), (3, 2), (3, 4), (1, 4), (corner, tip), (-1, 4), (-3, 4),
                ]]))

    def test_across_an_edge_near_its_end(self):
        """The cut from (0, 0) to (8, 0) meets the tooth's edges, or passes its end."""
        for tip in (NEAR, 0, -NEAR):
            piece = [(0, 0), (4, -4), (8, 0), (8, 4), (5, 4), (4, tip), (3, 4), (0, 4)]
            self.assert_cut(1 if tip > 0 else 0, 0, 0, 2, pattern_of([piece]))
            under = [(0, 0), (0, -4), (3, -4), (4, -tip), (5, -4), (8, -4), (8, 0), (4, 4)]
            self.assert_cut(1 if tip > 0 else 0, 0, 0, 6, pattern_of([under]))

    def test_a_hollow_as_flat_as_can_be(self):
        for up, wanted in ((NEAR, 1), (0, 0), (-NEAR, 0)):
            self.assert_cut(wanted, 0, 0, 2, pattern_of([[(0, 0), (4, -up), (8, 0), (4, 4)]]))
            self.assert_cut(1, 0, 1, 3, pattern_of([[(0, 0), (4, -up), (8, 0), (4, 4)]]))

    def test_pieces_as_large_and_small_as_can_be(self):
        for size in (FINEST, Fraction(1, FINEST)):
            self.assert_cuts([(-size, -size), (size, -size), (size, size), (-size, size)], [(0, 2), (1, 3)])
            self.assert_cuts([(0, 0), (size, 0), (size, size), (0, size)], [(0, 2), (1, 3)])
        for size in (FINEST // 2, Fraction(1, FINEST)):
            self.assert_cuts([(0, 0), (2 * size, -size), (size, 0), (2 * size, size)], [(0, 2)])

    def test_numbers_as_long_as_can_be(self):
        above = Fraction(FINEST, FINEST - 1)
        below = Fraction(FINEST - 3, FINEST - 1)
        self.assertTrue(below < 1 < above)
        for tip, wanted in ((above, 1), (1, 0), (below, 0)):
            self.assert_cut(wanted, 0, 0, 2, pattern_of([[(-FINEST, 1), (0, 0), (FINEST, 1), (0, tip)]]))
            self.assert_cut(wanted, 0, 0, 2, pattern_of([[(-2, 1), (0, -2), (2, 1), (0, tip)]]))


class RefusalTest(CutCase):
    """The refusals in their order."""

    def test_texts_as_long_as_may_be(self):
        for length in (4095, 4096):
            text = pattern_of_length(length)
            self.assertEqual(len(text), length)
            for k in range(8):
                self.assert_cut(1, k, 1, 15, text)
                self.assert_cut(1, k, 0, 14, text)
                self.assert_cut(0, k, 0, 15, text)
                self.assert_cut(0, k, 0, 16, text)
            self.assert_cut(-4, 8, 0, 2, text)

    def test_texts_too_long(self):
        for length in (4097, 4100, 4200):
            for text in (pattern_of_length(4097) + "\n" * (length - 4097), "\n" * length, b"\xff" * length):
                self.assertEqual(len(text), length)
                for k in (0, 8, FARTHEST):
                    self.assert_cut(-1, k, 0, 2, text)
                self.assert_cut(-1, 0, 0, FARTHEST, text)

    def test_too_long_goes_before_no_pattern(self):
        for text in ("\n" * 4096, pattern_of_length(4096)[:-1] + "?"):
            self.assertEqual(self.ask(cut, 0, 0, 2, text)[0], -2)
            self.assert_cut(-1, 0, 0, 2, text + "\n")

    def test_no_pattern_goes_before_no_such_piece(self):
        text = pattern_of([SQUARE])
        for k in (0, 1, 2, FARTHEST):
            for i, j in ((0, 2), (0, 0), (0, 9), (FARTHEST, FARTHEST)):
                self.assertEqual(self.ask(cut, k, i, j, text[:-4]), [-2, 0, 2, 5, 0])
                self.assertEqual(self.ask(cut, k, i, j, text + "\n"), [-2, 0, 2, 6, 0])
                self.assertEqual(self.ask(cut, k, i, j, ""), [-2, 0, 2, 0, 0])
        self.assert_cut(-4, 1, 0, 2, text)
