"""Promise 4: draft tells the text of the pattern that a draft means over a table."""

from fractions import Fraction

from seamdrafts.drafts import draft, print_of, value
from tests.asking import TABLE, WORKED_DRAFT, WorkCase, byte_list

FRONT = "piece front 0 3\n0 0\n4 0\n4 3\n0 3\n"
BACK = "piece back 4 0\n0 0\n4 0\n4 3\n"

# A bodice's half, drafted from two measures.
BODICE = """\
let w = bust / 4 + 0.5;   # half of the front
point A = (0, 0);
point B = (w, 0);
point C = (w, back);
point D = between(C, (0, back), 1 / 3);
point E = mirror(B, A, C);
piece bodice (A, B, C, D) grain B C;
piece facing (A, C, E) grain A E;
seam bodice B C, facing C E;
"""


class DraftTest(WorkCase):
    def test_the_answers_shape(self):
        told = byte_list("piece p 1 0\n0 0\n1 0\n0 1\nend\n")
        text = byte_list("point A = (0, 0); point B = (1, 0); point C = (0, 1); piece p (A, B, C) grain A B;")
        self.assertEqual(draft(text, []), [len(told), len(told)] + told + [0])
        self.assertEqual(draft([], []), [-5, 0, 2, 0, 12])
        self.assertEqual(draft([32] * 4097, []), [-1, 0, 0])
        self.assertEqual(draft(text, [0]), [-3, 0, 2, 0, 0])
        self.assertEqual(draft([0], []), [-2, 0, 2, 1, 0])

    def test_pieces_in_order(self):
        self.assert_pattern(WORKED_DRAFT, FRONT + BACK + "end\n")
        lines = WORKED_DRAFT.splitlines()
        self.assert_pattern("\n".join(lines[:5] + [lines[6], lines[5]]), BACK + FRONT + "end\n")
        self.assert_pattern("\n".join(lines[:6]), FRONT + "end\n")

    def test_corners_in_order(self):
        for corners, told in (
            ("O, A, B", "0 0\n4 0\n4 3\n"), ("A, B, O", "4 0\n4 3\n0 0\n"), ("B, O, A", "4 3\n0 0\n4 0\n"),
        ):
            self.assert_pattern(
                "\n".join(WORKED_DRAFT.splitlines()[:5]) + "piece p (" + corners + ") grain A C;",
                "piece p -4 3\n" + told + "end\n",
            )

    def test_grain(self):
        for grain, told in (
            ("O A", "4 0"), ("A O", "-4 0"), ("B A", "0 -3"), ("A C", "-4 3"), ("H A", "7/2 -1/3"),
            ("B H", "-7/2 -8/3"), ("H K", "0 1/3"),
        ):
            self.assert_pattern(
                WORKED_DRAFT + "point H = (1 / 2, 1 / 3); point K = (0.5, 2 / 3);"
                "piece p (O, A, B) grain " + grain + ";",
                FRONT + BACK + "piece p " + told + "\n0 0\n4 0\n4 3\nend\n",
            )

    def test_seams(self):
        for seams, told in (
            ("seam front O A, back O A;", "seam 0 0 1 0\n"), ("seam back O A, front O A;", "seam 1 0 0 0\n"),
            ("seam front C O, back A B;", "seam 0 3 1 1\n"), ("seam front O A, front B C;", "seam 0 0 0 2\n"),
            ("seam front O A, back O A; seam front C O, front A B;", "seam 0 0 1 0\nseam 0 3 0 1\n"),
            ("seam front C O, front A B; seam front O A, back O A;", "seam 0 3 0 1\nseam 0 0 1 0\n"),
        ):
            self.assert_pattern(WORKED_DRAFT + seams, FRONT + BACK + told + "end\n")

    def test_a_seam_may_stand_before_a_piece(self):
        self.assert_pattern(
            WORKED_DRAFT + "seam front O A, back O A; piece p (O, A, B) grain O A; seam p B O, back B O;",
            FRONT + BACK + "piece p 4 0\n0 0\n4 0\n4 3\nseam 0 0 1 0\nseam 2 2 1 2\nend\n",
        )

    def test_eight_pieces(self):
        text = "point A = (0, 0); point B = (1, 0); point C = (0, 1);"
        told = ""
        for index in range(8):
            text += "piece p" + str(index) + " (A, B, C) grain A C;"
            told += "piece p" + str(index) + " 0 1\n0 0\n1 0\n0 1\n"
        self.assert_pattern(text, told + "end\n")
        told += "seam 7 0 6 0\nseam 0 2 7 2\n"
        self.assert_pattern(text + "seam p7 A B, p6 A B; seam p0 C A, p7 C A;", told + "end\n")

    def test_sixteen_corners_and_their_seams(self):
        around = [(x, 0) for x in range(5)] + [(4, y) for y in range(1, 5)]
        around += [(x, 4) for x in range(3, -1, -1)] + [(0, y) for y in range(3, 0, -1)]
        names = ["c" + str(index) for index in range(16)]
        text = "".join("point {}=({},{});".format(name, x, y) for name, (x, y) in zip(names, around))
        told = ""
        for piece in ("p", "q"):
            text += "piece " + piece + " (" + ",".join(names) + ") grain c0 c8;"
            told += "piece " + piece + " 4 4\n" + "".join("{} {}\n".format(x, y) for x, y in around)
        for index in range(16):
            edge = "{} {}".format(names[index], names[(index + 1) % 16])
            text += "seam p {},q {};".format(edge, edge)
            told += "seam 0 {} 1 {}\n".format(index, index)
        self.assert_pattern(text, told + "end\n")

    def test_fractions_and_below_0(self):
        self.assert_pattern(
            "point A = (- 1 / 2, - 0.25); point B = (3 / 9, - 7); point C = (1.50, 2 / 6 - 1);"
            "piece p (A, B, C) grain B A;", "piece p -5/6 27/4\n-1/2 -1/4\n1/3 -7\n3/2 -2/3\nend\n",
        )

    def test_finest_numbers(self):
        self.assert_pattern(
            "point A = (g, g); point B = (f, h); point C = (- h, f); point O = (0, 0); piece p (A, B, C) grain O A;",
            "piece p -4611686018427387904 -4611686018427387904\n-4611686018427387904 -4611686018427387904\n"
            "4611686018427387904 1/4611686018427387904\n-1/4611686018427387904 4611686018427387904\nend\n",
        )

    def test_a_patterns_text_may_be_longer_than_a_drafts(self):
        part = Fraction(1, 1000000000000007)
        corners = [(index + part, index * index - part) for index in range(16)]
        names = "ABCDEFGHIJKLMNOP"
        text = "".join("point {}=({}+e,{}-e);".format(name, index, index ** 2) for index, name in enumerate(names))
        told = ""
        for index in range(8):
            text += "piece p{}({})grain A B;".format(index, ",".join(names))
            told += "piece p{} 1 1\n".format(index) + "".join("{} {}\n".format(x, y) for x, y in corners)
        self.assertGreater(len(told), 2 * 4096)
        self.assert_pattern(text, told + "end\n", "e 1/1000000000000007\n")

    def test_names_of_pieces(self):
        text = "point A = (0, 0); point B = (1, 0); point C = (0, 1);"
        for name in ("end", "End", "seams", "P", "p234567890123456"):
            told = "piece " + name + " 1 0\n0 0\n1 0\n0 1\nend\n"
            self.assert_pattern(text + "piece " + name + " (A, B, C) grain A B;", told)


class MeasuresTest(WorkCase):
    def test_a_draft_over_its_measures(self):
        self.assert_pattern(
            BODICE,
            "piece bodice 0 42\n0 0\n22 0\n22 42\n44/3 42\n"
            "piece facing -3520/281 5082/281\n0 0\n22 42\n-3520/281 5082/281\n"
            "seam 0 1 1 1\nend\n", "bust 86\nback 42\n",
        )

    def test_other_measures_mean_another_pattern(self):
        patterns = []
        for bust, back in ((86, 42), (90, 42), (86, 45), (171, 10)):
            table = "bust {}\nback {}\n".format(bust, back)
            patterns.append(self.ask(draft, BODICE, table))
            self.assertGreater(patterns[-1][0], 0)
            self.assertEqual(self.ask(draft, BODICE, "back {}\nbust {}\nneck 36\n".format(back, bust)), patterns[-1])
        for index, pattern in enumerate(patterns):
            self.assertNotIn(pattern, patterns[:index])

    def test_a_measure_that_is_not_there(self):
        self.assert_not_worked("let a = bust;", 0, 2, "")
        self.assert_not_worked("let a = bust;", 0, 2, "bus 1\n")


class FormOfTextTest(WorkCase):
    """Remarks, blanks and how numbers are written don't matter."""

    def assert_same(self, text, other, table=TABLE):
        self.assertEqual(self.ask(draft, text, table), self.ask(draft, other, table))
        for name in ("a", "O", "B", "front", "waist"):
            self.assertEqual(self.ask(value, text, table, name), self.ask(value, other, table, name))

    def test_remarks_and_blanks(self):
        self.assert_same(WORKED_DRAFT, WORKED_DRAFT.replace("\n", ""))
        self.assert_same(WORKED_DRAFT, WORKED_DRAFT.replace(" ", "\n\n  "))
        self.assert_same(WORKED_DRAFT, WORKED_DRAFT.replace("\n", " # let a = 1 / 0; $\n"))
        self.assert_same(WORKED_DRAFT, "# first\n" + WORKED_DRAFT + "# last")
        self.assert_same(WORKED_DRAFT, WORKED_DRAFT.replace(", ", ",").replace(" (", "(").replace(" = ", "="))

    def test_how_numbers_are_written(self):
        self.assert_same(WORKED_DRAFT, WORKED_DRAFT.replace("4", "004.000").replace("3", "3.0"))
        self.assert_same(WORKED_DRAFT, WORKED_DRAFT.replace("4", "(8 / 2)").replace("3", "(1.5 * 2)"))
        self.assert_same(WORKED_DRAFT, WORKED_DRAFT.replace("0", "(0 * 5)").replace("3", "- (- 3)"))

    def test_the_printed_form_means_the_same(self):
        for text in (WORKED_DRAFT, WORKED_DRAFT + "seam front O A, back O A; let b = a - (1 - a / (3 / 7));", BODICE):
            answer = self.ask(print_of, text)
            printed = bytes(answer[2:-1]).decode("ascii")
            for table in (TABLE, "bust 86\nback 42\n"):
                self.assertEqual(self.ask(draft, text, table), self.ask(draft, printed, table))
                for name in ("a", "b", "w", "E"):
                    self.assertEqual(self.ask(value, text, table, name), self.ask(value, printed, table, name))
