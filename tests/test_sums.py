"""Promises 3 and 4: what sums mean, what can't be reckoned, what is too fine to be kept."""

from tests.asking import FINEST, WorkCase

GIVEN = "let a = 2; let b = - 1 / 3; point P = (7, - 2 / 5); point Q = (1 / 2, 3);"


class SumCase(WorkCase):
    def assert_sum(self, text, number):
        """The sum means this number: in a let, in a point, and as a part."""
        self.assert_number(GIVEN + "let s = " + text + ";", "s", number)
        self.assert_point(GIVEN + "point S = (" + text + ", nought);", "S", number, 0)
        self.assert_point(GIVEN + "point S = (nought, " + text + ");", "S", 0, number)

    def assert_refused(self, text, kind):
        """The sum has a fault of this kind: in a let, in a point, and as a part."""
        self.assert_not_worked(GIVEN + "let s = " + text + ";", 4, kind)
        self.assert_not_worked(GIVEN + "point S = (" + text + ", 1);", 4, kind)
        self.assert_not_worked(GIVEN + "point S = (1, " + text + ");", 4, kind)
        self.assert_not_worked(GIVEN + "point S = shift(P, 1, " + text + "); let t = 1;", 4, kind)


class SumTest(SumCase):
    def test_numbers(self):
        for text, number in (
            ("0", 0), ("7", 7), ("007", 7), ("20.5", "41/2"), ("20.50", "41/2"), ("0.125", "1/8"), ("0.0", 0),
            ("000.000", 0), ("1.0", 1), ("0.3", "3/10"), ("3.14159", "314159/100000"),
            ("123456789012345678", 123456789012345678), ("999999999999999999.5", "1999999999999999999/2"),
            ("0.000000000000000001", "1/1000000000000000000"),
            ("4.600000000000000001", "4600000000000000001/" + "1" + "0" * 18),
        ):
            self.assert_sum(text, number)

    def test_names(self):
        for text, number in (("a", 2), ("b", "-1/3"), ("waist", "171/2"), ("nought", 0), ("f", FINEST), ("g", -FINEST)):
            self.assert_sum(text, number)

    def test_plus_and_minus(self):
        for text, number in (
            ("1 / 2 + 1 / 3", "5/6"), ("1 / 2 - 1 / 3", "1/6"), ("1 - 2 - 3", -4), ("1 - (2 - 3)", 2), ("0 - a", -2),
            ("1 - 2 + 3", 2), ("1 + 2 - 3 + 4", 4), ("a + b", "5/3"), ("b - a", "-7/3"), ("0.1 + 0.2", "3/10"),
            ("1 / 6 + 1 / 3", "1/2"), ("b + 1 / 3", 0), ("waist - 85", "1/2"), ("1 + 2 * 3", 7), ("1 - 4 / 2", -1),
        ):
            self.assert_sum(text, number)

    def test_times_and_over(self):
        for text, number in (
            ("2 / 3 * 5 / 7", "10/21"), ("2 * 3 / 4 / 5", "3/10"), ("12 / (4 / 2)", 6), ("12 / 4 / 2", "3/2"),
            ("12 / 4 * 2", 6), ("6 / 4", "3/2"), ("0 / 5", 0), ("0 * 5", 0), ("b * b", "1/9"), ("1 / b", -3),
            ("b / b", 1), ("a / b", -6), ("1 / - 2", "-1/2"), ("- 1 / - 2", "1/2"), ("20.5 * 2", 41),
            ("(1 + 2) * 3", 9), ("2 * (3 - 5) * 0.5", -2), ("- b / 2.5", "2/15"),
        ):
            self.assert_sum(text, number)

    def test_negative(self):
        for text, number in (
            ("- 1", -1), ("- - 1", 1), ("- - - 2", -2), ("- b", "1/3"), ("- 0", 0), ("- (1 - 3)", 2), ("2 - - 3", 5),
            ("- 2 * - 3", 6), ("2 * - 3 + 1", -5), ("- x(Q)", "-1/2"), ("- a - a", -4),
        ):
            self.assert_sum(text, number)

    def test_x_and_y(self):
        for text, number in (
            ("x(P)", 7), ("y(P)", "-2/5"), ("x(Q) + y(Q)", "7/2"), ("x((1 / 6, 2))", "1/6"), ("y((1 / 6, 2))", 2),
            ("x(shift(Q, 1, 10))", "3/2"), ("y(shift(Q, 1, 10))", 13), ("x(between(P, Q, 2))", -6),
            ("x(P) / y(P)", "-35/2"),
        ):
            self.assert_sum(text, number)

    def test_min_and_max(self):
        for text, number in (
            ("min(1, 2)", 1), ("min(2, 1)", 1), ("max(1, 2)", 2), ("max(2, 1)", 2), ("min(1 / 3, 0.34)", "1/3"),
            ("max(1 / 3, 0.34)", "17/50"), ("min(1 / 3, 0.33)", "33/100"), ("max(1 / 3, 0.33)", "1/3"),
            ("min(- 1, - 2)", -2), ("max(- 1, - 2)", -1), ("min(b, - 2 / 6)", "-1/3"), ("max(b, - 2 / 6)", "-1/3"),
            ("min(b, nought)", "-1/3"), ("max(b, nought)", 0), ("max(f - 1, f)", FINEST),
            ("min(f - 1, f)", FINEST - 1), ("min(max(1, a), 1.5)", "3/2"),
            ("max(x(P), y(P)) - min(x(Q), y(Q))", "13/2"), ("min(1 / f, 1 / (f + 1)) * (f + 1)", 1),
            ("min(1 / - 2, 0)", "-1/2"), ("min(0, 1 / - 2)", "-1/2"), ("max(1 / - 2, 0)", 0),
            ("max(- 1 / - 2, 0)", "1/2"),
        ):
            self.assert_sum(text, number)

    def test_division_by_0(self):
        for text in (
            "1 / 0", "0 / 0", "1 / 0.0", "1 / - 0", "1 / nought", "1 / (1 - 1)", "1 / (1 / 2 - 0.5)",
            "1 / (b + 1 / 3)", "1 / x((0, 1))", "1 / y(shift(Q, 0, - 3))", "0 * (1 / 0)", "min(1, 1 / 0)",
            "max(1 / 0, 1)", "- (1 / 0)", "1 / 0 * 0", "1 / 2 / 0", "2 * 3 / 0 + 1", "x((1 / 0, 1))",
            "x((1, 1 / 0))", "1 / min(0, 1)", "1 / (0 * f * f)", "1 / (f * f - f * f)",
        ):
            self.assert_refused(text, 4)
        self.assert_not_worked("let a = 1 / nought;", 0, 4)

    def test_no_division_by_0(self):
        for text, number in (("1 / (1 / 3 - 0.333)", 3000), ("1 / (nought - 1)", -1), ("nought / f", 0)):
            self.assert_sum(text, number)


class FineTest(SumCase):
    """What passes 2^62 is kept by a let and a point, and by neither on the way."""

    def test_the_finest_that_is_kept(self):
        for text, number in (
            ("2147483648 * 2147483648", FINEST), ("- 2147483648 * 2147483648", -FINEST), ("f", FINEST),
            ("- f", -FINEST), ("1 / f", "1/4611686018427387904"), ("- 1 / f", "-1/4611686018427387904"),
            ("1 / 2147483648 / 2147483648", "1/4611686018427387904"),
            ("f / (f - 1)", "4611686018427387904/4611686018427387903"),
            ("(f - 1) / f", "4611686018427387903/4611686018427387904"),
            ("(1 - f) / f", "-4611686018427387903/4611686018427387904"), ("h", "1/4611686018427387904"),
            ("f / 3", "4611686018427387904/3"),
        ):
            self.assert_sum(text, number)

    def test_too_fine(self):
        for text in (
            "f + 1", "- f - 1", "g - 1", "2147483648 * 2147483648 + 1", "1 / (f + 1)", "- 1 / (f + 1)", "f / 3 * 2",
            "1 / (- f - 1)", "(f + 1) / - 1", "7 / (2 * f)", "f + 1 / 2", "(f + 1) / 2", "h / 2", "h / 3", "1 + h",
            "h - 1 - h - h", "f * f", "h * h", "f * f + h * h", "f + h", "1 / (f - 1) + 1 / f", "f * 2 / (f - 1)",
            "100000000000000000.000000000000000001", "0.000000000000000001 / 5", "4.611686018427387907",
            "max(f, f + 1)", "min(g, g - 1)",
        ):
            self.assert_refused_as_kept(text)

    def assert_refused_as_kept(self, text):
        """What the sum means is too fine to be kept, by a let or a point, in x or y."""
        self.assert_not_worked(GIVEN + "let s = " + text + ";", 4, 6)
        self.assert_not_worked(GIVEN + "point S = (" + text + ", 1);", 4, 6)
        self.assert_not_worked(GIVEN + "point S = (1, " + text + ");", 4, 6)
        self.assert_not_worked(GIVEN + "let s = - (" + text + ");", 4, 6)
        self.assert_sum("(" + text + ") * 0", 0)
        self.assert_sum("max(1, (" + text + ") / (" + text + "))", 1)

    def test_too_fine_on_the_way_alone(self):
        for text, number in (
            ("f * 3 / 3", FINEST), ("(f + 1) / (f + 1)", 1), ("f * f / f", FINEST),
            ("h * h * f", "1/4611686018427387904"), ("f + 1 - 1", FINEST), ("f + h - f", "1/4611686018427387904"),
            ("(f + 2) / 2", FINEST // 2 + 1), ("(f + 1) * 2 / 2 - f", 1), ("f * f * f * f / f / f / f", FINEST),
            ("min(f + 1, 5)", 5), ("max(g - 1, - 5)", -5), ("x((7, f * f))", 7),
            ("100000000000000000.000000000000000001 - 100000000000000000", "1/1000000000000000000"),
            ("g * g - f * f", 0), ("1 / (1 / (f + 1)) - 1", FINEST), ("(f * f - 1) / (f + 1)", FINEST - 1),
            ("1 / 3 / f * f", "1/3"),
        ):
            self.assert_sum(text, number)

    def test_very_long_numbers_on_the_way(self):
        self.assert_sum("f" + "*f" * 400 + "/f" * 400, FINEST)
        self.assert_sum("h" + "*h" * 400 + "/h" * 400, "1/4611686018427387904")
        self.assert_refused_as_kept("f" + "*f" * 300)
        self.assert_sum("1 / 3" + " + 1 / 3" * 299, 100)
        self.assert_sum("1" + " - 1.5" * 299, "-895/2")
