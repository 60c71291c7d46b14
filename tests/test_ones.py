"""Promise 8: ones tells all places that are one with a place."""

from fractions import Fraction

from seamdrafts.drafts import ones
from tests.asking import FINEST, PATTERN, PatternCase, byte_list, pattern_of, pattern_of_length

SQUARE = [(0, 0), (1, 0), (1, 1), (0, 1)]
TRIANGLE = [(0, 0), (1, 0), (0, 1)]
# Its edges 0 and 2 are of length 5.
LEANING = [(0, 0), (5, 0), (3, 4)]
# Of 16 edges of length 1.
AROUND = [(x, 0) for x in range(5)] + [(4, y) for y in range(1, 5)]
AROUND += [(x, 4) for x in range(3, -1, -1)] + [(0, y) for y in range(3, 0, -1)]


def shifted(corners, x, y):
    return [(corner[0] + x, corner[1] + y) for corner in corners]


class AloneTest(PatternCase):
    """Places that are one with none but themselves."""

    def test_the_answers_shape(self):
        text = byte_list("piece p 1 0\n0 0\n1 0\n0 1\nend\n")
        self.assertEqual(ones(0, 0, 1, 1, 2, text), [8] + [8, 48, 32, 48, 32, 49, 47, 50, 10] + [0])
        self.assertEqual(ones(0, 1, 1, 1, 1, text), [-4, 0, 0])
        self.assertEqual(ones(1, 0, 1, 0, 1, text), [-4, 0, 0])
        self.assertEqual(ones(0, 0, 2, 0, 1, text), [-1, 0, 0])
        self.assertEqual(ones(0, 0, 1, 0, 1, text[:-1]), [-2, 0, 2, 4, 0])
        self.assertEqual(ones(0, 0, 1, 0, 1, []), [-2, 0, 2, 0, 0])
        self.assertEqual(ones(0, 0, 1, 0, 1, [10] * 4097), [-1, 0, 0])

    def test_places_inside(self):
        for line in ("0 1 1", "0 1/3 5/2", "0 399/100 1/4611686018427387904", "1 3 2", "1 22/7 1/9"):
            self.assert_ones(PATTERN, line)

    def test_places_on_hems(self):
        for line in ("0 4 1", "0 2 3", "0 1/2 3", "0 0 2", "0 0 3", "0 4 3", "1 4 1", "1 2 3/2", "1 4 3", "1 4/7 3/7"):
            self.assert_ones(PATTERN, line)
        for line in ("0 0 0", "0 4 0", "0 1 0", "1 0 0", "1 4 0", "1 1 0"):
            self.assert_ones(PATTERN.replace("seam 0 0 1 0\n", ""), line)

    def test_each_piece(self):
        text = pattern_of([shifted(SQUARE, -x, x) for x in range(8)])
        for k in range(8):
            self.assert_ones(text, "{} {}/2 {}/3".format(k, 1 - 2 * k, 1 + 3 * k))
            self.assert_ones(text, "{} {} {}".format(k, -k, k))

    def test_one_point_in_two_pieces_is_two_places(self):
        text = pattern_of([SQUARE, SQUARE, TRIANGLE], "0 0 1 2")
        self.assert_ones(text, "0 1/2 1/2")
        self.assert_ones(text, "1 1/2 1/2")
        self.assert_ones(text, "2 1/2 1/2")
        self.assert_ones(text, "2 0 0")
        self.assert_ones(text, "0 1 1")
        self.assert_ones(text, "1 0 0")

    def test_numbers_at_the_finest(self):
        far = FINEST
        text = pattern_of([[(-far, -far), (far, -far), (far, far), (-far, far)]])
        for number in (str(far), str(-far)):
            self.assert_ones(text, "0 {} 0".format(number))
            self.assert_ones(text, "0 -1/{} {}".format(far, number))
            self.assert_ones(text, "0 {0} {0}".format(number))
        for number in ("1/{}", "-1/{}", "{}/3", "-{}/3"):
            self.assert_ones(text, "0 {0} {0}".format(number.format(far)))


class SewnEdgeTest(PatternCase):
    """Places within sewn edges."""

    def test_the_beginning_comes_to_the_end(self):
        for seam in ("0 0 1 0", "1 0 0 0"):
            text = PATTERN.replace("0 0 1 0", seam)
            for x, other in ((0, 4), (1, 3), (2, 2), (3, 1), (4, 0), ("1/2", "7/2"), ("4/3", "8/3")):
                self.assert_ones(text, "0 {} 0".format(x), "1 {} 0".format(other))

    def test_each_pair_of_edges(self):
        for one in range(4):
            for other in range(4):
                text = pattern_of([SQUARE, shifted(SQUARE, 10, 0)], "0 {} 1 {}".format(one, other))
                mine = ("1/3 0", "1 1/3", "2/3 1", "0 2/3")[one]
                yours = ("32/3 0", "11 2/3", "31/3 1", "10 1/3")[other]
                self.assert_ones(text, "0 " + mine, "1 " + yours)

    def test_an_edge_turned_by_its_seam(self):
        text = pattern_of([[(0, 0), (5, 0), (0, 5)], LEANING, [(-1, 0), (4, -12), (13, -1)]], "0 0 1 2")
        self.assert_ones(text, "0 1 0", "1 3/5 4/5")
        self.assert_ones(text, "0 5/2 0", "1 3/2 2")
        self.assert_ones(text, "0 1/2 0", "1 3/10 2/5")
        self.assert_ones(text, "0 25/7 0", "1 15/7 20/7")
        self.assert_ones(text, "0 0 0", "1 0 0")
        self.assert_ones(text, "0 5 0", "1 3 4")
        text = pattern_of([[(0, 0), (13, 0), (0, 5)], [(-1, 0), (4, -12), (13, -1)]], "1 0 0 0")
        self.assert_ones(text, "0 1 0", "1 47/13 -144/13")
        self.assert_ones(text, "0 13/2 0", "1 3/2 -6")
        self.assert_ones(text, "0 4 0", "1 32/13 -108/13")

    def test_two_edges_of_one_piece(self):
        text = pattern_of([[(0, 0), (4, 0), (4, 3), (0, 3)]], "0 1 0 3")
        self.assert_ones(text, "0 0 1", "0 4 1")
        self.assert_ones(text, "0 0 1/7", "0 4 1/7")
        self.assert_ones(text, "0 0 0", "0 4 0")
        self.assert_ones(text, "0 0 3", "0 4 3")
        self.assert_ones(text, "0 1 0")
        self.assert_ones(text, "0 2 3/2")

    def test_two_edges_next_to_one_another(self):
        for seam in ("0 0 0 2", "0 2 0 0"):
            text = pattern_of([LEANING], seam)
            self.assert_ones(text, "0 0 0")
            self.assert_ones(text, "0 3 4", "0 5 0")
            self.assert_ones(text, "0 3/5 4/5", "0 1 0")
            self.assert_ones(text, "0 12/5 16/5", "0 4 0")
            self.assert_ones(text, "0 4 2")
        text = pattern_of([SQUARE], "0 1 0 2")
        self.assert_ones(text, "0 1 1")
        self.assert_ones(text, "0 0 1", "0 1 0")
        self.assert_ones(text, "0 1/3 1", "0 1 1/3")

    def test_a_corner_in_the_midst_of_an_edge(self):
        pieces = [[(0, 0), (2, 0), (4, 0), (4, 3), (0, 3)], [(0, 0), (2, 0), (0, 5)], [(0, 0), (0, -2), (9, 0)]]
        text = pattern_of(pieces, "0 1 1 0", "2 0 0 0")
        self.assert_ones(text, "0 1 0", "2 0 -1")
        self.assert_ones(text, "0 3 0", "1 1 0")
        self.assert_ones(text, "0 7/2 0", "1 1/2 0")
        self.assert_ones(text, "0 2 0", "1 2 0", "2 0 0")
        self.assert_ones(text, "0 0 0", "2 0 -2")
        self.assert_ones(text, "0 4 0", "1 0 0")
        text = pattern_of(pieces, "0 0 0 1")
        self.assert_ones(text, "0 2 0")
        self.assert_ones(text, "0 1 0", "0 3 0")
        self.assert_ones(text, "0 0 0", "0 4 0")


class CornerTest(PatternCase):
    """Corners are led on from edge to edge."""

    def test_through_two_seams_between_two_pieces(self):
        pieces = [SQUARE, shifted(SQUARE, 5, 5)]
        text = pattern_of(pieces, "0 0 1 0", "0 2 1 2")
        self.assert_ones(text, "0 0 0", "1 6 5")
        self.assert_ones(text, "0 1 0", "1 5 5")
        self.assert_ones(text, "0 1 1", "1 5 6")
        self.assert_ones(text, "0 0 1", "1 6 6")
        text = pattern_of(pieces, "0 0 1 0", "0 1 1 3")
        self.assert_ones(text, "0 0 0", "1 6 5")
        self.assert_ones(text, "0 1 0", "1 5 5")
        self.assert_ones(text, "0 1 1", "1 5 6")
        self.assert_ones(text, "0 0 1")

    def test_back_to_the_piece_itself(self):
        text = pattern_of([SQUARE, shifted(SQUARE, 5, 5)], "0 0 1 0", "0 1 1 1")
        self.assert_ones(text, "0 1 0", "1 5 5", "1 6 6")
        self.assert_ones(text, "0 0 0", "0 1 1", "1 6 5")
        self.assert_ones(text, "0 1/4 0", "1 23/4 5")
        self.assert_ones(text, "0 1 1/4", "1 6 23/4")

    def test_seams_of_one_piece(self):
        text = pattern_of([SQUARE], "0 0 0 2", "0 3 0 1")
        self.assert_ones(text, "0 0 0", "0 0 1", "0 1 0", "0 1 1")
        self.assert_ones(text, "0 1/3 0", "0 1/3 1")
        self.assert_ones(text, "0 0 1/3", "0 1 1/3")
        text = pattern_of([SQUARE], "0 0 0 1", "0 2 0 3")
        self.assert_ones(text, "0 0 0", "0 1 1")
        self.assert_ones(text, "0 1 0")
        self.assert_ones(text, "0 0 1")

    def test_led_on_through_all_pieces(self):
        pieces = [shifted(TRIANGLE, 10 * k, -k) for k in range(8)]
        seams = ["{} 0 {} 2".format(k, k + 1) for k in range(7)]
        around = ["{} {} {}".format(k, 10 * k, -k) for k in range(8)]
        swapped = [" ".join(seam.split()[2:] + seam.split()[:2]) for seam in seams]
        for row in (seams, seams[::-1], swapped, seams[::2] + swapped[1::2], seams + ["7 0 0 2"]):
            self.assert_ones(pattern_of(pieces, *row), *around)
        text = pattern_of(pieces, *seams)
        for k in range(7):
            self.assert_ones(text, "{} {} {}".format(k, 10 * k + 1, -k), "{} {} {}".format(k + 1, 10 * k + 10, -k))
        self.assert_ones(text, "0 0 1")
        self.assert_ones(text, "7 71 -7")
        text = pattern_of(pieces, *seams[:3], *seams[4:])
        self.assert_ones(text, *around[:4])
        self.assert_ones(text, *around[4:])

    def test_led_on_by_pieces_in_any_order(self):
        pieces = [shifted(TRIANGLE, 0, -k) for k in range(8)]
        row = (5, 2, 7, 0, 4, 1, 6, 3)
        seams = ["{} 0 {} 2".format(row[index], row[index + 1]) for index in range(7)]
        self.assert_ones(pattern_of(pieces, *seams), *["{} 0 {}".format(k, -k) for k in range(8)])

    def test_all_edges_of_the_most_corners(self):
        edges = [(k, index) for k in range(8) for index in range(16)]
        edges = [edges[(37 * index + 11) % 128] for index in range(128)]
        groups = {(k, corner): {(k, corner)} for k in range(8) for corner in range(16)}
        seams = []
        for one, other in zip(edges[::2], edges[1::2]):
            seams.append("{} {} {} {}".format(*one, *other))
            for mine, yours in ((0, 1), (1, 0)):
                group = groups[one[0], (one[1] + mine) % 16] | groups[other[0], (other[1] + yours) % 16]
                for corner in group:
                    groups[corner] = group
        text = pattern_of([AROUND] * 8, *seams)
        rows = sorted(set(tuple(sorted((k, *AROUND[corner]) for k, corner in group)) for group in groups.values()))
        self.assertGreater(max(len(row) for row in rows), 20)
        for row in rows:
            self.assert_ones(text, *["{} {} {}".format(*place) for place in row])


class OrderTest(PatternCase):
    """Lines stand by piece, then x, then y, as numbers, not as texts."""

    def assert_corners_in_order(self, corners, *lines):
        """The corners of a piece with four, of which all are sewn to be one."""
        for first in range(4):
            text = pattern_of([corners[first:] + corners[:first]], "0 0 0 2", "0 1 0 3")
            self.assert_ones(text, *["0 " + line for line in lines])

    def test_by_x(self):
        self.assert_corners_in_order(
            [(-10, 0), (9, 1), (10, 7), (-9, 6)], "-10 0", "-9 6", "9 1", "10 7"
        )
        self.assert_corners_in_order(
            [("-2/3", 5), ("1/3", 4), ("1/2", 6), ("-1/2", 7)], "-2/3 5", "-1/2 7", "1/3 4", "1/2 6"
        )
        self.assert_corners_in_order(
            [("-1/2", 5), (0, 4), ("5/2", 6), (2, 7)], "-1/2 5", "0 4", "2 7", "5/2 6"
        )

    def test_by_y(self):
        for low, high in ((-10, -9), (9, 10), (-9, 10), ("1/3", "1/2"), ("-2/3", "-1/2"), (0, "1/7"), ("-1/7", 0)):
            self.assert_corners_in_order(
                [(-3, low), ("5/2", low), ("5/2", high), (-3, high)],
                "-3 {}".format(low), "-3 {}".format(high), "5/2 {}".format(low), "5/2 {}".format(high)
            )

    def test_by_piece_first(self):
        pieces = [shifted(TRIANGLE, -k, -k * k) for k in range(8)]
        seams = ["{} 2 {} 0".format(k, k + 1) for k in range(7)]
        self.assert_ones(pattern_of(pieces, *seams), *["{} {} {}".format(k, -k, -k * k) for k in range(8)])

    def test_near_numbers(self):
        finest = FINEST
        self.assert_corners_in_order(
            [(0, 0), ("1/{}".format(finest), 0), ("1/{}".format(finest), 1), (0, 1)],
            "0 0", "0 1", "1/{} 0".format(finest), "1/{} 1".format(finest)
        )
        self.assert_corners_in_order(
            [(-finest, 1 - finest), (finest, 1 - finest), (finest, 2 - finest), (-finest, 2 - finest)],
            *["{} {}".format(x, y) for x in (-finest, finest) for y in (1 - finest, 2 - finest)]
        )


class RefusalTest(PatternCase):
    """The refusals in their order."""

    def sewn_at(self, x, y):
        """Two pieces: at part t of the first's edge (5 t, 0) is one with (x + 3 t, y + 4 t) of the second's."""
        return pattern_of([[(0, 0), (5, 0), (0, 5)], shifted(LEANING, x, y)], "0 0 1 2")

    def test_no_place(self):
        for x, y in ((5, 1), (-1, 0), (0, -1), (2, 4), (4, 4), (5, 0), ("1/2", "-1/4611686018427387904")):
            self.assert_no_ones(-4, 0, x, y, PATTERN)
        for x, y in ((0, 1), (2, 2), (5, 0), (-1, 0), (8, 6), (4, -3)):
            self.assert_no_ones(-4, 1, x, y, PATTERN)
        self.assert_no_ones(-4, 0, 1, 1, pattern_of([[(0, 0), (3, 0), (3, 3), (2, 3), (2, "1/2"), (0, "1/2")]]))

    def test_no_such_piece(self):
        for k in (2, 3, 8, 2 ** 62, 2 ** 63, 18446744073709551615):
            for x in (0, 1, 2, 100):
                self.assert_no_ones(-4, k, x, 0, PATTERN)

    def test_too_fine(self):
        text = self.sewn_at(0, 0)
        for above in (1, 3, 7, 9):
            self.assert_no_ones(-6, 0, Fraction(above, FINEST), 0, text)
        self.assert_ones(text, "0 5/{} 0".format(FINEST), "1 3/{} 1/{}".format(FINEST, FINEST // 4))
        self.assert_ones(text, "0 15/{} 0".format(FINEST), "1 9/{} 3/{}".format(FINEST, FINEST // 4))
        self.assert_no_ones(-6, 0, Fraction(1, FINEST - 1), 0, text)
        self.assert_no_ones(-6, 0, 1 + Fraction(1, FINEST - 1), 0, text)

    def test_one_number_alone_is_too_fine(self):
        for x, y in ((FINEST - 5, 0), (0, FINEST - 4), (-FINEST, 0), (0, -FINEST)):
            text = self.sewn_at(x, y)
            self.assert_no_ones(-6, 0, Fraction(5, 7), 0, text)
            self.assert_no_ones(-6, 0, Fraction(5, 7), 0, text.replace("0 0 1 2", "1 2 0 0"))
            self.assert_ones(text, "0 0 0", "1 {} {}".format(x, y))
            self.assert_ones(text, "0 5 0", "1 {} {}".format(x + 3, y + 4))

    def test_one_number_just_not_too_fine(self):
        third = (FINEST - 1) // 3
        text = self.sewn_at(0, third)
        self.assert_ones(text, "0 5/12 0", "1 1/4 {}/3".format(FINEST))
        self.assert_no_ones(-6, 0, Fraction(5, 6), 0, text)
        text = self.sewn_at(third, 0)
        self.assert_ones(text, "0 5/9 0", "1 {}/3 4/9".format(FINEST))
        self.assert_no_ones(-6, 0, Fraction(10, 9), 0, text)
        text = self.sewn_at(-third - 3, -5)
        self.assert_ones(text, "0 40/9 0", "1 -{}/3 -13/9".format(FINEST))
        self.assert_no_ones(-6, 0, Fraction(35, 9), 0, text)

    def test_only_what_is_told_may_be_too_fine(self):
        text = self.sewn_at(FINEST - 5, 0)
        self.assert_ones(text, "0 5/7 1")
        self.assert_ones(text, "0 0 1/7")
        self.assert_ones(text, "1 {} 0".format(FINEST - 3))
        self.assert_ones(self.sewn_at(FINEST - 5, FINEST - 4), "0 0 0", "1 {} {}".format(FINEST - 5, FINEST - 4))
        far = [(-FINEST, -FINEST), (FINEST, -FINEST), (FINEST, FINEST), (-FINEST, FINEST)]
        text = pattern_of([far, far], "0 0 1 0", "0 1 1 1")
        self.assert_ones(text, "0 {0} 1".format(FINEST), "1 {0} -1".format(FINEST))
        self.assert_ones(text, "0 1/{0} -{0}".format(FINEST), "1 -1/{0} -{0}".format(FINEST))

    def test_points_that_are_none(self):
        self.assert_no_point(ones, 0, PATTERN)

    def test_texts_as_long_as_may_be(self):
        for length in (4095, 4096):
            text = pattern_of_length(length)
            self.assertEqual(len(text), length)
            self.assert_ones(text, "7 10000000015 100000000000000225")
            self.assert_no_ones(-4, 0, 0, 0, text)
            self.assert_no_ones(-4, 8, 0, 0, text)

    def test_texts_too_long(self):
        for length in (4097, 4100, 4200):
            for text in (pattern_of_length(4097) + "\n" * (length - 4097), "\n" * length, b"\xff" * length):
                self.assertEqual(len(text), length)
                self.assert_no_ones(-1, 0, 0, 0, text)
                self.assert_no_ones(-1, 8, 0, 0, text)
                self.assertEqual(self.ask(ones, 0, 0, 2, 0, 1, text), [-1, 0, 0])

    def test_no_point_goes_before_no_pattern(self):
        for text in ("", "?", PATTERN[:-1], "\n" * 4096):
            self.assert_no_point(ones, 0, text)
            self.assertEqual(self.ask(ones, 0, 0, 1, 0, 1, text)[0], -2)

    def test_no_point_goes_before_no_place(self):
        self.assert_no_point(ones, 2, PATTERN)
        self.assertEqual(self.ask(ones, 0, 10, 2, 10, 2, PATTERN), [-1, 0, 0])

    def test_no_pattern_goes_before_no_place(self):
        text = pattern_of([TRIANGLE])
        for k, x in ((0, 2), (1, 0), (2, 0), (18446744073709551615, 0)):
            self.assertEqual(self.ask(ones, k, x, 1, 0, 1, text[:-4]), [-2, 0, 2, 4, 0])
            self.assert_no_ones(-4, k, x, 0, text)

    def test_no_pattern_goes_before_too_fine(self):
        text = self.sewn_at(0, 0)
        self.assertEqual(self.ask(ones, 0, 1, FINEST, 0, 1, text[:-4]), [-2, 0, 2, 9, 0])
        self.assert_no_ones(-6, 0, Fraction(1, FINEST), 0, text)

    def test_no_place_goes_before_too_fine(self):
        text = self.sewn_at(0, 0)
        for k, x in ((0, Fraction(-1, FINEST)), (0, Fraction(FINEST, 7)), (2, Fraction(1, FINEST))):
            self.assert_no_ones(-4, k, x, 0, text)
