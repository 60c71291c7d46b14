"""Promise 5: judge tells how many pieces, seams and hems a pattern has."""

from seamdrafts.drafts import draft, judge, piece
from tests.asking import FINEST, PATTERN, TABLE, WORKED_DRAFT, PatternCase, byte_list, pattern_of_length

TRIANGLE = "0 0\n1 0\n0 1\n"
AROUND = [(x, 0) for x in range(5)] + [(4, y) for y in range(1, 5)]
AROUND += [(x, 4) for x in range(3, -1, -1)] + [(0, y) for y in range(3, 0, -1)]


def triangles(count):
    return "".join("piece p{} 1 0\n".format(index) + TRIANGLE for index in range(count))


class JudgeTest(PatternCase):
    def test_the_answers_shape(self):
        self.assertEqual(judge(byte_list("piece p 1 0\n" + TRIANGLE + "end\n")), [0, 0, 3, 1, 0, 3])
        self.assertEqual(judge([]), [-2, 0, 2, 0, 0])
        self.assertEqual(judge([0]), [-2, 0, 2, 0, 0])
        self.assertEqual(judge([10] * 4097), [-1, 0, 0])

    def test_pieces(self):
        for count in range(1, 9):
            self.assert_judged(triangles(count) + "end\n", count, 0, 3 * count)

    def test_seams_and_hems(self):
        self.assert_judged(PATTERN, 2, 1, 5)
        self.assert_judged(PATTERN.replace("seam 0 0 1 0\n", ""), 2, 0, 7)
        self.assert_judged(PATTERN.replace("end", "seam 0 3 1 1\nend"), 2, 2, 3)
        self.assert_judged(PATTERN.replace("end", "seam 0 1 0 3\nend"), 2, 2, 3)
        self.assert_judged(PATTERN.replace("seam 0 0 1 0", "seam 0 2 0 0\nseam 0 3 0 1"), 2, 2, 3)

    def test_all_edges_sewn(self):
        text = triangles(8)
        for index in range(0, 8, 2):
            for edge in range(3):
                text += "seam {} {} {} {}\n".format(index, edge, index + 1, edge)
        self.assert_judged(text + "end\n", 8, 12, 0)
        self.assert_judged("piece p 1 0\n0 0\n1 0\n1 1\n0 1\nseam 0 0 0 2\nseam 0 3 0 1\nend\n", 1, 2, 0)

    def test_most_corners(self):
        corners = "".join("{} {}\n".format(x, y) for x, y in AROUND)
        text = "piece p 1 0\n" + corners + "piece q 1 0\n" + corners
        self.assert_judged(text + "end\n", 2, 0, 32)
        seams = "".join("seam 1 {} 0 {}\n".format(index, index) for index in range(16))
        self.assert_judged(text + seams + "end\n", 2, 16, 0)

    def test_fractions(self):
        self.assert_judged("piece p -1/2 7/3\n-1/2 -1/3\n2/3 -5/7\n1/9 22/7\nend\n", 1, 0, 3)

    def test_what_is_drafted_may_be(self):
        for seams, wanted in (
            ("", (2, 0, 7)), ("seam front O A, back O A;", (2, 1, 5)), ("seam back A B, front C O;", (2, 1, 5)),
            ("seam front O A, front B C; seam front A B, front C O;", (2, 2, 3)),
            ("piece p (A, B, O) grain C A; seam p B O, back B O;", (3, 1, 8)),
        ):
            answer = self.ask(draft, WORKED_DRAFT + seams, TABLE)
            self.assert_judged(bytes(answer[2:-1]), *wanted)

    def test_nothing_is_kept_between_calls(self):
        self.assert_judged(PATTERN, 2, 1, 5)
        self.assert_no_pattern("piece p 1 0\n0 0\n", 2)
        self.assert_judged("piece p 1 0\n" + TRIANGLE + "end\n", 1, 0, 3)


class RefusalTest(PatternCase):
    """The refusals in their order."""

    def test_texts_as_long_as_may_be(self):
        for length in (4068, 4095, 4096):
            text = pattern_of_length(length)
            self.assertEqual(len(text), length)
            self.assert_judged(text, 8, 0, 128)
            self.assertEqual(self.ask(piece, 7, text)[0], 16)

    def test_texts_too_long(self):
        text = pattern_of_length(4097)
        self.assertEqual(len(text), 4097)
        for long in (text, text + text[:103], "\n" * 4097, "end\n" * 1030, b"\xff" * 4200):
            self.assert_refused(long, [-1, 0, 0])
            self.assertEqual(self.ask(piece, 8, long), [-1, 0, 0])

    def test_too_long_goes_before_no_pattern(self):
        for text in ("?", PATTERN + "end\n", triangles(9) + "end\n", ""):
            self.assert_refused(text + "1" * (4097 - len(text)), [-1, 0, 0])
            filled = text + "1" * (4096 - len(text))
            self.assertEqual(self.ask(judge, filled)[0], -2)
            self.assertEqual(self.ask(piece, 0, filled)[0], -2)

    def test_no_pattern_goes_before_no_such_piece(self):
        for k in (1, 2, 2 ** 64 - 1):
            self.assertEqual(self.ask(piece, k, "piece p 1 0\n" + TRIANGLE), [-2, 0, 2, 4, 0])
            self.assertEqual(self.ask(piece, k, "piece p 1 0\n" + TRIANGLE + "end\n"), [-4, 0, 0])

    def test_no_pattern_goes_before_too_fine(self):
        large = "piece p 1 0\n0 0\n{} 0\n0 2\n".format(FINEST)
        self.assertEqual(self.ask(piece, 0, large), [-2, 0, 2, 4, 0])
        self.assertEqual(self.ask(piece, 0, large + "end\n"), [-6, 0, 0])

    def test_no_such_piece_goes_before_too_fine(self):
        large = "piece p 1 0\n0 0\n{} 0\n0 2\nend\n".format(FINEST)
        self.assertEqual(self.ask(piece, 1, large), [-4, 0, 0])
        self.assert_judged(large, 1, 0, 3)
