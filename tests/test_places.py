"""Promises 3 and 4: what places mean, and which can't be reckoned."""

from tests.asking import WorkCase

GIVEN = """\
point O = (0, 0);
point A = (4, 0);
point B = (4, 3);
point C = (0, 3);
point H = (1 / 2, 1 / 3);
point N = (- 2, - 1 / 5);
"""


class PlaceTest(WorkCase):
    def assert_places(self, *rows):
        """Each row is a place, the x and the y that it means: in a point, and as a part."""
        for text, x, y in rows:
            self.assert_point(GIVEN + "point P = " + text + ";", "P", x, y)
            self.assert_number(GIVEN + "let a = x(" + text + ");", "a", x)
            self.assert_number(GIVEN + "let a = y(" + text + ");", "a", y)
            self.assert_point(GIVEN + "point P = shift(" + text + ", 0, 0);", "P", x, y)

    def assert_refused(self, *texts):
        """Each place has a fault of kind 5: in a point, and as a part."""
        for text in texts:
            self.assert_not_worked(GIVEN + "point P = " + text + "; let a = 1;", 6, 5)
            self.assert_not_worked(GIVEN + "let a = x(" + text + ");", 6, 5)
            self.assert_not_worked(GIVEN + "point P = foot(" + text + ", O, A);", 6, 5)

    def test_names_and_pairs(self):
        self.assert_places(
            ("O", 0, 0), ("H", "1/2", "1/3"), ("N", -2, "-1/5"), ("(1, 2)", 1, 2), ("(1.5, - 2 / 6)", "3/2", "-1/3"),
            ("(x(H) + 1, y(H) * 3)", "3/2", 1), ("(0.50, 007)", "1/2", 7),
        )

    def test_between(self):
        self.assert_places(
            ("between(O, B, 1 / 2)", 2, "3/2"), ("between(O, B, 0)", 0, 0), ("between(O, B, 1)", 4, 3),
            ("between(O, B, 2)", 8, 6), ("between(O, B, - 1 / 3)", "-4/3", -1), ("between(B, O, 1 / 4)", 3, "9/4"),
            ("between(H, A, 3 / 7)", 2, "4/21"), ("between(A, H, 3 / 7)", "5/2", "1/7"), ("between(A, A, 5)", 4, 0),
            ("between(H, N, 0.2)", 0, "17/75"), ("between(H, N, 1)", -2, "-1/5"),
        )

    def test_meet(self):
        self.assert_places(
            ("meet(O, B, A, C)", 2, "3/2"), ("meet(A, C, O, B)", 2, "3/2"), ("meet(B, O, A, C)", 2, "3/2"),
            ("meet(O, A, A, B)", 4, 0), ("meet(O, A, B, H)", "1/16", 0), ("meet(B, H, O, A)", "1/16", 0),
            ("meet(O, C, B, H)", 0, "-1/21"), ("meet(O, H, A, B)", 4, "8/3"), ("meet(O, H, C, B)", "9/2", 3),
            ("meet(O, A, C, H)", "9/16", 0), ("meet(N, H, O, A)", "-17/16", 0),
            ("meet(O, B, (1, 0), (1, 9))", 1, "3/4"),
        )

    def test_where_lines_meet_can_be_compared(self):
        for lines in ("A, C, O, B", "C, A, O, B", "O, B, A, C", "O, B, C, A"):
            for sign, number in (("", 2), ("0 - ", -2)):
                text = sign + "x(meet(" + lines + "))"
                self.assert_number(GIVEN + "let a = min(" + text + ", 1);", "a", min(number, 1))
                self.assert_number(GIVEN + "let a = max(1, " + text + ");", "a", max(number, 1))

    def test_lines_that_do_not_meet_in_one_point(self):
        self.assert_refused(
            "meet(O, A, C, B)", "meet(O, A, B, C)", "meet(O, C, A, B)", "meet(O, B, (1, 0), (5, 3))",
            "meet(O, H, (0, 1), (3 / 2, 2))", "meet(O, A, O, A)", "meet(O, A, A, O)", "meet(O, A, (7, 0), (- 3, 0))",
            "meet(O, H, (3, 2), (- 3 / 2, - 1))",
        )

    def test_lines_through_one_point(self):
        self.assert_refused(
            "meet(O, O, A, B)", "meet(A, B, O, O)", "meet(O, O, O, O)", "meet(O, O, C, C)",
            "meet(H, (0.5, 3 / 9), A, B)", "foot(A, O, O)", "foot(O, O, O)", "foot(A, H, (2 / 4, 1 / 3))",
            "mirror(A, O, O)", "mirror(B, B, B)", "mirror(A, B, between(B, A, 0))",
        )

    def test_foot(self):
        self.assert_places(
            ("foot(O, A, C)", "36/25", "48/25"), ("foot(O, C, A)", "36/25", "48/25"),
            ("foot(H, O, B)", "12/25", "9/25"), ("foot(H, O, A)", "1/2", 0), ("foot(H, A, B)", 4, "1/3"),
            ("foot(N, O, A)", -2, 0), ("foot(B, O, C)", 0, 3), ("foot(O, O, B)", 0, 0), ("foot(B, O, B)", 4, 3),
            ("foot((2, 3 / 2), O, B)", 2, "3/2"), ("foot((10, 0), O, B)", "32/5", "24/5"),
            ("foot(C, O, H)", "18/13", "12/13"), ("foot(O, H, A)", "16/445", "168/445"),
        )

    def test_mirror(self):
        self.assert_places(
            ("mirror(O, A, C)", "72/25", "96/25"), ("mirror(O, C, A)", "72/25", "96/25"),
            ("mirror(H, O, A)", "1/2", "-1/3"), ("mirror(H, A, B)", "15/2", "1/3"), ("mirror(B, O, C)", -4, 3),
            ("mirror(A, A, H)", 4, 0), ("mirror((2, 3 / 2), O, B)", 2, "3/2"),
            ("mirror(H, O, (1, 1))", "1/3", "1/2"), ("mirror(C, O, H)", "36/13", "-15/13"),
            ("mirror(mirror(N, A, H), A, H)", -2, "-1/5"),
        )

    def test_turn(self):
        self.assert_places(
            ("turn(A, O, A, (0, 4))", 0, 4), ("turn(H, O, A, (0, 4))", "-1/3", "1/2"),
            ("turn(H, O, A, (0, - 4))", "1/3", "-1/2"), ("turn(H, O, A, (- 4, 0))", "-1/2", "-1/3"),
            ("turn(H, O, A, A)", "1/2", "1/3"), ("turn(O, O, A, (0, 4))", 0, 0),
            ("turn((1, 0), O, (5, 0), B)", "4/5", "3/5"), ("turn((1, 0), O, B, (5, 0))", "4/5", "-3/5"),
            ("turn(O, A, (9, 0), (7, 4))", "8/5", "-16/5"), ("turn(A, A, (9, 0), (7, 4))", 4, 0),
            ("turn((5, 0), O, (1, 2), (2, 1))", 4, -3), ("turn((1, 1), O, (1 / 2, 0), (0.3, 0.4))", "-1/5", "7/5"),
            ("turn(N, H, (3 / 2, 1 / 3), (1 / 2, 4 / 3))", "31/30", "-13/6"),
            ("turn(H, N, shift(N, 3, 4), shift(N, 5, 0))", "-11/150", "-47/25"),
            ("turn(B, C, H, mirror(H, C, A))", "92/265", "1851/265"), ("turn(B, O, (0, 5), (5, 0))", 3, -4),
        )

    def test_directions_of_none(self):
        self.assert_refused(
            "turn(B, O, O, A)", "turn(B, O, A, O)", "turn(B, O, O, O)", "turn(O, H, (0.5, 2 / 6), A)",
            "turn(O, H, A, (0.5, 2 / 6))", "turn(O, O, O, O)",
        )

    def test_directions_of_two_lengths(self):
        self.assert_refused(
            "turn(B, O, A, C)", "turn(B, O, A, (2, 0))", "turn(B, O, A, (8, 0))", "turn(B, O, A, B)",
            "turn(B, O, (1, 1), (1, 0))", "turn(B, O, (1 / 2, 1 / 2), (0.7, 0))", "turn(O, A, H, C)",
            "turn(B, O, (3, 4), (5.000000000000000001, 0))",
        )

    def test_shift(self):
        self.assert_places(
            ("shift(H, 1 / 2, - 1 / 3)", 1, 0), ("shift(O, 1.5, 2)", "3/2", 2), ("shift(N, 0, 0)", -2, "-1/5"),
            ("shift(N, x(H), y(B))", "-3/2", "14/5"), ("shift(shift(O, 1, 2), 3, 4)", 4, 6),
            ("shift(H, 0.25, 0.2)", "3/4", "8/15"),
        )

    def test_places_within_one_another(self):
        self.assert_places(
            ("between(between(O, A, 1 / 2), between(B, C, 1 / 2), 1 / 3)", 2, 1),
            ("foot(mirror(H, O, A), shift(O, 0, - 3), meet(O, C, A, (3, - 3)))", 0, "-1/3"),
            ("meet(foot(O, A, C), mirror(O, A, C), (0, 1), (1, 1))", "3/4", 1),
            ("turn(turn(H, O, A, (0, 4)), O, (0, 4), A)", "1/2", "1/3"),
            ("shift(shift(shift(shift(O, 1, 0), 1, 0), 1, 0), 1, 0)", 4, 0),
        )


class FinePlaceTest(WorkCase):
    """What passes 2^62 is kept by a point neither as x nor as y, but may be passed on the way."""

    def test_the_finest_that_is_kept(self):
        for text, x, y in (
            ("(f, g)", 2 ** 62, - 2 ** 62), ("(h, - h)", "1/4611686018427387904", "-1/4611686018427387904"),
            ("shift((f - 1, g + 1), 1, - 1)", 2 ** 62, - 2 ** 62),
            ("turn((f, h), (0, 0), (1, 0), (0, 1))", "-1/4611686018427387904", 2 ** 62),
            ("mirror((f, h), (0, 0), (1, 0))", 2 ** 62, "-1/4611686018427387904"),
            ("between((0, 0), (f, 2), h)", 1, "1/2305843009213693952"),
        ):
            self.assert_point("point P = " + text + ";", "P", x, y)

    def test_too_fine(self):
        for text in (
            "(f + 1, 0)", "(0, f + 1)", "(- f - 1, 0)", "(0, g - 1)", "(h / 2, 0)", "(0, h / 2)", "(1 / (f + 1), 1)",
            "(1, 1 / (f + 1))", "(f * f, f * f)", "shift((f, 0), 1, 0)", "shift((0, f), 0, 1)",
            "shift((f, 0), h, 0)", "between((0, 0), (f, 0), 2)", "between((0, 0), (0, h), 0.5)",
            "mirror((0, 0), (f, 0), (f, 1))", "mirror((0, 0), (0, f), (1, f))",
            "turn((f, f), (0, 0), (5, 0), (3, 4))", "meet((0, 0), (1, h), (0, 2), (1, 2))",
            "meet((1, h), (0, 0), (0, 2), (1, 2))", "foot((1, 1), (0, 0), (f, 1))",
        ):
            self.assert_not_worked("let a = 1; point P = " + text + ";", 1, 6)
            self.assert_number("let a = 0 * x(" + text + ");", "a", 0)

    def test_too_fine_on_the_way_alone(self):
        for text, x, y in (
            ("shift((f + 1, g - 1), - 1, 1)", 2 ** 62, - 2 ** 62), ("between((0, 0), (f * f, f), h)", 2 ** 62, 1),
            ("meet((0, 0), (f * f, f * f), (f, 0), (0, f))", 2 ** 61, 2 ** 61),
            ("foot((f + 1, 5), (0, 0), (0, f * f))", 0, 5), ("foot((h / 2, 5), (0, 0), (0, 1))", 0, 5),
            ("mirror(mirror((1, 2), (f, h), (h, f)), (f, h), (h, f))", 1, 2),
            ("turn((1, 2), (0, 0), (f * f, 0), (0, f * f))", -2, 1),
            ("shift(turn((f + 1, 0), (0, 0), (1, 0), (0, 1)), 3, - f)", 3, 1),
        ):
            self.assert_point("point P = " + text + ";", "P", x, y)
