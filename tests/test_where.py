"""Promise 7: where tells whether a point is inside of a piece, on its rim or outside."""

from fractions import Fraction

from seamdrafts.drafts import where
from tests.asking import FINEST, PATTERN, PatternCase, byte_list, pattern_of, pattern_of_length

LEAST = Fraction(1, FINEST)
TRIANGLE = [(0, 0), (4, 0), (0, 4)]


class WhereTest(PatternCase):
    def test_the_answers_shape(self):
        text = byte_list("piece p 1 0\n0 0\n1 0\n0 1\nend\n")
        self.assertEqual(where(0, 1, 3, 1, 3, text), [2, 0, 0])
        self.assertEqual(where(0, 1, 2, 1, 2, text), [1, 0, 0])
        self.assertEqual(where(0, 2, 3, 2, 3, text), [0, 0, 0])
        self.assertEqual(where(1, 0, 1, 0, 1, text), [-4, 0, 0])
        self.assertEqual(where(0, 0, 2, 0, 1, text), [-1, 0, 0])
        self.assertEqual(where(0, 0, 1, 0, 1, text[:-1]), [-2, 0, 2, 4, 0])
        self.assertEqual(where(0, 0, 1, 0, 1, []), [-2, 0, 2, 0, 0])
        self.assertEqual(where(0, 0, 1, 0, 1, [10] * 4097), [-1, 0, 0])

    def test_each_piece(self):
        squares = [[(x, x), (x + 1, x), (x + 1, x + 1), (x, x + 1)] for x in range(0, 16, 2)]
        for count in range(1, 9):
            text = pattern_of(squares[:count])
            for k in range(count):
                for other in range(8):
                    middle = Fraction(4 * other + 1, 2)
                    self.assert_where(2 if k == other else 0, k, middle, middle, text)
                    self.assert_where(1 if k == other else 0, k, 2 * other, middle, text)
            for k in (count, count + 1, 18446744073709551615):
                self.assert_where(-4, k, Fraction(1, 2), Fraction(1, 2), text)

    def test_no_such_piece(self):
        self.assert_where(1, 1, 0, 0, PATTERN)
        for k in (2, 3, 8, 2 ** 62, 2 ** 63, 18446744073709551615):
            for x in (0, 1, 100, LEAST, -FINEST):
                self.assert_where(-4, k, x, 0, PATTERN)

    def test_one_point_in_two_pieces(self):
        text = pattern_of([TRIANGLE, [(-1, -1), (9, -1), (9, 9), (-1, 9)], [(0, 0), (8, -8), (1, 0)]])
        for k, wanted in ((0, 1), (1, 2), (2, 0)):
            self.assert_where(wanted, k, 2, 0, text)

    def test_seams_and_grain_do_not_matter(self):
        for more in ("", "seam 0 0 1 0\n", "seam 0 0 0 2\nseam 0 1 0 3\n", "seam 0 3 1 1\nseam 1 0 0 2\n"):
            text = PATTERN.replace("seam 0 0 1 0\n", more).replace("back 4 0", "back -7/9 1/2")
            self.assert_where(2, 1, 3, 2, text)
            self.assert_where(1, 1, 2, Fraction(3, 2), text)
            self.assert_where(0, 1, 1, 1, text)

    def test_small_whole_numbers(self):
        for corners in ([(0, 0), (2, 1), (1, 2)], [(2, 1), (1, 2), (0, 0)], [(1, 2), (0, 0), (2, 1)]):
            for x in range(-1, 4):
                for y in range(-1, 4):
                    wanted = 1 if (x, y) in corners else 2 if (x, y) == (1, 1) else 0
                    self.assert_where(wanted, 0, x, y, pattern_of([corners]))

    def test_corners_in_the_midst_of_an_edge(self):
        text = pattern_of([[(0, 0), (2, 0), (4, 0), (6, 0), (6, 3), (4, 2), (2, 1)]])
        for x in range(7):
            self.assert_where(1, 0, x, 0, text)
            self.assert_where(1, 0, x, Fraction(x, 2), text)
            self.assert_where(0, 0, x, -1, text)
            self.assert_where(0, 0, x, Fraction(x, 2) + Fraction(1, 2 ** 60), text)
        self.assert_where(2, 0, 2, Fraction(1, 2), text)
        self.assert_where(2, 0, 4, 1, text)
        self.assert_where(0, 0, 7, 0, text)
        self.assert_where(0, 0, -1, 0, text)
        self.assert_where(0, 0, -2, -1, text)
        self.assert_where(0, 0, 8, 4, text)


class MapTest(PatternCase):
    """The points one apart from one another, seen from (-1, ..) rightward and down from above a piece's top."""

    def assert_map(self, corners, rows):
        """The points lie to the piece as the rows tell, wherever it's turned, grown and shifted to."""
        for turned in range(4):
            for shift in (0, Fraction(-22, 7)):
                self.assert_map_moved(corners, rows, turned, shift)

    def assert_map_moved(self, corners, rows, turned, shift):
        def moved(x, y):
            for _ in range(turned):
                x, y = -y, x
            return (x * Fraction(2, 3) + shift, y * Fraction(2, 3) - shift)

        first = 3 * turned % len(corners)
        text = pattern_of([[moved(x, y) for x, y in corners[first:] + corners[:first]]])
        top = max(y for x, y in corners) + 1
        for down, row in enumerate(rows):
            for right, wanted in enumerate(row):
                self.assert_where(int(wanted), 0, *moved(right - 1, top - down), text)

    def test_a_triangle(self):
        self.assert_map(TRIANGLE, [
            "0000000",
            "0100000",
            "0110000",
            "0121000",
            "0122100",
            "0111110",
            "0000000",
        ])

    def test_a_hollow(self):
        self.assert_map([(0, 0), (6, 0), (6, 4), (4, 4), (4, 2), (2, 2), (2, 4), (0, 4)], [
            "000000000",
            "011101110",
            "012101210",
            "012111210",
            "012222210",
            "011111110",
            "000000000",
        ])

    def test_teeth(self):
        self.assert_map([(0, 4), (2, 0), (4, 4), (6, 0), (8, 4), (6, 8), (4, 6), (2, 8)], [
            "00000000000",
            "00010001000",
            "00021012000",
            "00122122100",
            "00222222200",
            "01222122210",
            "00222022200",
            "00121012100",
            "00020002000",
            "00010001000",
            "00000000000",
        ])

    def test_corners_on_edges(self):
        self.assert_map([(0, 0), (2, -2), (4, -4), (6, -2), (8, 0), (5, 3), (3, 3)], [
            "00000000000",
            "00001110000",
            "00012221000",
            "00122222100",
            "01222222210",
            "00122222100",
            "00012221000",
            "00001210000",
            "00000100000",
            "00000000000",
        ])

    def test_a_star(self):
        self.assert_map([(0, 4), (3, 3), (4, 0), (5, 3), (8, 4), (5, 5), (4, 8), (3, 5)], [
            "00000000000",
            "00000100000",
            "00000200000",
            "00000200000",
            "00001210000",
            "01222222210",
            "00001210000",
            "00000200000",
            "00000200000",
            "00000100000",
            "00000000000",
        ])

    def test_a_winding_strip(self):
        corners = [(0, 0), (6, 0), (6, 6), (2, 6), (2, 8), (6, 8), (6, 10), (0, 10), (0, 4), (4, 4), (4, 2), (0, 2)]
        self.assert_map(corners, [
            "000000000",
            "011111110",
            "012222210",
            "012111110",
            "012100000",
            "012111110",
            "012222210",
            "011111210",
            "000001210",
            "011111210",
            "012222210",
            "011111110",
            "000000000",
        ])


class FineTest(PatternCase):
    """Points nearer to an edge or a corner than 1/2^60, and pieces as far and as small as can be."""

    def test_level_and_upright_edges(self):
        text = pattern_of([TRIANGLE])
        for x, y, wanted in (
            (1, LEAST, 2), (1, 0, 1), (1, -LEAST, 0), (LEAST, 1, 2), (0, 1, 1), (-LEAST, 1, 0),
            (LEAST, LEAST, 2), (LEAST, 0, 1), (0, LEAST, 1), (-LEAST, 0, 0), (0, -LEAST, 0), (-LEAST, -LEAST, 0),
            (-LEAST, LEAST, 0), (LEAST, -LEAST, 0), (4, LEAST, 0), (LEAST, 4, 0),
        ):
            self.assert_where(wanted, 0, x, y, text)

    def test_slanting_edges(self):
        text = pattern_of([TRIANGLE])
        self.assert_where(2, 0, 1 - LEAST, 3, text)
        self.assert_where(0, 0, 1 + Fraction(1, FINEST - 1), 3, text)
        self.assert_where(2, 0, 3, 1 - LEAST, text)
        self.assert_where(0, 0, 3, 1 + Fraction(1, FINEST - 1), text)
        third = Fraction(1, 3)
        above = Fraction((FINEST + 2) // 3, FINEST)
        under = Fraction((FINEST - 1) // 3, FINEST)
        self.assertTrue(0 < above - third < Fraction(1, 2 ** 61) and 0 < third - under < Fraction(1, 2 ** 61))
        for corners, wanted in (
            ([(0, 0), (3, 1), (0, 4)], (2, 1, 0)), ([(0, 0), (3, -4), (3, 1)], (0, 1, 2)),
            ([(-3, -1), (6, 2), (-3, 4)], (2, 1, 0)), ([(-3, -1), (6, -4), (6, 2)], (0, 1, 2)),
        ):
            for y, lies in zip((above, third, under), wanted):
                self.assert_where(lies, 0, 1, y, pattern_of([corners]))

    def test_a_small_piece(self):
        text = pattern_of([[(0, 0), (LEAST, 0), (0, LEAST)]])
        for x, y in ((0, 0), (LEAST, 0), (0, LEAST)):
            self.assert_where(1, 0, x, y, text)
        for x, y in ((LEAST, LEAST), (-LEAST, 0), (0, -LEAST), (1, 0), (1, 1), (Fraction(1, FINEST - 1), 0)):
            self.assert_where(0, 0, x, y, text)
        text = pattern_of([[(-LEAST, -LEAST), (LEAST, -LEAST), (LEAST, LEAST), (-LEAST, LEAST)]])
        self.assert_where(2, 0, 0, 0, text)
        self.assert_where(1, 0, 0, LEAST, text)
        self.assert_where(0, 0, 0, Fraction(1, FINEST - 1), text)

    def test_a_large_piece(self):
        far = FINEST
        text = pattern_of([[(-far, -far), (far, -far), (far, far), (-far, far)]])
        for x, y, wanted in (
            (0, 0, 2), (far - 1, 1 - far, 2), (LEAST, -LEAST, 2), (far, 0, 1), (-far, LEAST, 1), (far, far, 1),
            (-far, far, 1), (far - 1, -far, 1),
        ):
            self.assert_where(wanted, 0, x, y, text)

    def test_a_long_piece(self):
        text = pattern_of([[(-FINEST, 0), (FINEST, -1), (FINEST, 1)]])
        for x, wanted in ((-1, 0), (0, 1), (1, 2), (-LEAST, 0), (LEAST, 2), (FINEST, 1), (-FINEST, 0)):
            self.assert_where(wanted, 0, x, Fraction(1, 2), text)
            self.assert_where(wanted, 0, x, Fraction(-1, 2), text)
        self.assert_where(2, 0, 1 - FINEST, 0, text)
        self.assert_where(1, 0, -FINEST, 0, text)

    def test_points_at_the_finest(self):
        for number in (FINEST, -FINEST, LEAST, -LEAST, Fraction(FINEST, FINEST - 1), Fraction(1 - FINEST, FINEST)):
            for x, y in ((number, 1), (1, number), (number, number)):
                inside = x > 0 and y > 0 and x + y < 4
                self.assert_where(2 if inside else 0, 0, x, y, pattern_of([TRIANGLE]))


class RefusalTest(PatternCase):
    """The refusals in their order."""

    def test_points_that_are_none(self):
        self.assert_no_point(where, 0, PATTERN)

    def test_texts_as_long_as_may_be(self):
        for length in (4095, 4096):
            text = pattern_of_length(length)
            self.assertEqual(len(text), length)
            self.assert_where(1, 7, 10 ** 10 + 15, 10 ** 17 + 225, text)
            self.assert_where(0, 0, 0, 0, text)
            self.assert_where(-4, 8, 0, 0, text)

    def test_texts_too_long(self):
        for length in (4097, 4100, 4200):
            for text in (pattern_of_length(4097) + "\n" * (length - 4097), "\n" * length, b"\xff" * length):
                self.assertEqual(len(text), length)
                self.assert_where(-1, 0, 0, 0, text)
                self.assert_where(-1, 8, 0, 0, text)
                self.assertEqual(self.ask(where, 0, 0, 2, 0, 1, text), [-1, 0, 0])

    def test_no_point_goes_before_no_pattern(self):
        for text in ("", "?", PATTERN[:-1], "\n" * 4096):
            self.assert_no_point(where, 0, text)
            self.assertEqual(self.ask(where, 0, 0, 1, 0, 1, text)[0], -2)

    def test_no_point_goes_before_no_such_piece(self):
        for k in (2, 18446744073709551615):
            self.assert_no_point(where, k, PATTERN)
            self.assert_where(-4, k, 0, 0, PATTERN)

    def test_no_pattern_goes_before_no_such_piece(self):
        for k in (1, 2, 18446744073709551615):
            text = pattern_of([TRIANGLE])
            self.assertEqual(self.ask(where, k, 0, 1, 0, 1, text[:-4]), [-2, 0, 2, 4, 0])
            self.assert_where(-4, k, 0, 0, text)
