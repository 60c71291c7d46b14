"""Promises 5 and 6: which texts are patterns, and of another text the first line that can't stand."""

from tests.asking import FINEST, PATTERN, WORDS, PatternCase

TRIANGLE = "0 0\n1 0\n0 1\n"
PIECE = "piece p 1 0\n" + TRIANGLE
SECOND = "piece q 1 0\n" + TRIANGLE
# Four pieces: p0 and p1 alike, p2 with other lengths, p3 a square.
PIECES = (
    "piece p0 1 0\n0 0\n1 0\n0 1\npiece p1 1 0\n0 0\n1 0\n0 1\npiece p2 1 0\n0 0\n2 0\n0 3\n"
    "piece p3 1 0\n0 0\n1 0\n1 1\n0 1\n"
)


def lines_in(text):
    return text.count("\n")


class LineTest(PatternCase):
    """Lines that are none of the four, wherever they stand."""

    def assert_bad_line(self, line):
        lines = PATTERN.splitlines(True)
        for place in (0, 1, 3, 5, 6, 9, 10, 11):
            text = "".join(lines[:place]) + line + "\n" + "".join(lines[place:])
            self.assert_no_pattern(text, place)
        self.assert_no_pattern("".join(lines[:9]) + line + "\n", 9)
        self.assert_no_pattern("".join(lines[:3]) + line + "\n" + line + "\nand more", 3)

    def test_other_words(self):
        for line in (
            "", " ", "?", "corner 1 2", "pieces p 1 0", "Piece p 1 0", "PIECE p 1 0", "seams 0 0 1 0", "Seam 0 1 1 1",
            "End", "END", "ends", "grain 1 0", "let a = 1;", "# a remark", "p 1 0", "a b", "\t", "point 1 2",
        ):
            self.assert_bad_line(line)

    def test_too_few_and_too_many_words(self):
        for line in (
            "piece", "piece p", "piece p 1", "piece p 1 0 0", "piece p q 1 0", "piece 1 0", "1", "1 2 3", "1 2 3 4",
            "seam", "seam 0", "seam 0 1", "seam 0 1 1", "seam 0 1 1 1 1", "seam front 1 back 1", "end end", "end 0",
            "end p 1 0",
        ):
            self.assert_bad_line(line)

    def test_blanks(self):
        for line in ("piece p 1 0", "1 2", "seam 0 1 1 1", "end"):
            self.assert_bad_line(" " + line)
            self.assert_bad_line(line + " ")
            if " " in line:
                self.assert_bad_line(line.replace(" ", "  "))
                self.assert_bad_line(line.replace(" ", "  ", 1))
                self.assert_bad_line(line.replace(" ", "\t", 1))
                self.assert_bad_line(line.replace(" ", "", 1))
            self.assert_bad_line(line + "\r")

    def test_strange_bytes(self):
        for byte in (0, 9, 13, 127, 128, 160, 178, 192, 233, 255):
            for line in (
                b"1 \xfe", b"\xfe2 1", b"1\xfe2", b"piece \xfe 1 0", b"piece p\xfe 1 0", b"end\xfe", b"seam 0 1 1 \xfe",
            ):
                text = PIECE.encode() + line.replace(b"\xfe", bytes([byte])) + b"\nend\n"
                self.assert_no_pattern(text, 4)

    def test_numbers(self):
        for number in (
            "00", "01", "007", "-01", "-0", "01/2", "1/02", "0/1", "0/2", "1/1", "5/1", "-5/1", "2/4", "4/2", "-3/9",
            "1/0", "0/0", "-1/0", "1/-2", "-1/-2", "--1", "+1", "1/+2", "1/", "/2", "/", "-", "1//2", "1/2/3", "1.5",
            "1.0", "1e3", "0x1", "a", "1a", "1_0", "1-", "", str(FINEST + 1), str(-FINEST - 1),
            "1/" + str(FINEST + 1), "-1/" + str(FINEST + 1), str(FINEST + 1) + "/3", "2/" + str(2 * FINEST),
            str(10 ** 19), "9" * 1500, "1/" + "9" * 1500, "0" * 1500,
        ):
            for line in (number + " 1", "1 " + number, "piece z " + number + " 1", "piece z 1 " + number):
                self.assert_bad_line(line)

    def test_numbers_that_can_stand(self):
        for number in (
            "0", "-1", "10", "1/2", "-22/7", str(FINEST), str(-FINEST), "1/" + str(FINEST), "-1/" + str(FINEST),
            str(FINEST - 1) + "/" + str(FINEST), str(FINEST) + "/" + str(FINEST - 1),
        ):
            self.assert_judged("piece p " + number + " 1\n" + TRIANGLE + "end\n", 1, 0, 3)
            self.assert_judged("piece p 1 " + number + "\n" + TRIANGLE + "end\n", 1, 0, 3)
            self.assert_no_pattern(PIECE + number + " 7\n7 " + number + "\nend\n7 7\n", 7)

    def test_names(self):
        for name in ("a", "Z", "7", "0", "007", "1a", "a" * 16, "0" * 16, "Z9" * 8, "end", "0x1") + tuple(WORDS):
            self.assert_judged("piece " + name + " 1 0\n" + TRIANGLE + "end\n", 1, 0, 3)
        for name in (
            "", "a" * 17, "1" * 17, "a" * 900, "a_b", "-1", "1/2", "a-b", "a.b", "a;", "#", "(a)", "a#", "?", "a,",
            "-",
        ):
            self.assert_bad_line("piece " + name + " 1 0")

    def test_digits_of_seams(self):
        for word in (
            "00", "01", "-1", "-0", "+1", "1/2", "1.0", "a", "", "0x1", "1a", "000", "0" * 900, "-" + "1" * 900,
        ):
            for index in range(4):
                words = "0 1 1 1".split()
                words[index] = word
                self.assert_bad_line("seam " + " ".join(words))

    def test_a_seam_has_however_many_digits(self):
        for word in ("2", "10", "99", "100", "18446744073709551616", "1" + "0" * 900, "9" * 3900):
            for index in range(4):
                words = "0 1 0 2".split()
                words[index] = word
                seam = "seam " + " ".join(words) + "\n"
                if len(word) > 1 or index % 2 == 0:
                    self.assert_no_pattern(PIECE + seam + "end\n", 6)
                    self.assert_no_pattern(PIECE + seam + "end\nend\n", 6)
                    self.assert_no_pattern(PIECE + seam + "2 2\nend\n", 5)


class OrderTest(PatternCase):
    """Lines that can't stand where they do."""

    def test_the_first_line(self):
        for line in ("1 2", "end", "seam 0 0 0 1", "seam 0 0 1 0"):
            self.assert_no_pattern(line + "\n", 0)
            self.assert_no_pattern(line + "\n" + PATTERN, 0)

    def test_a_corner_behind_a_seam(self):
        self.assert_no_pattern(PATTERN.replace("end", "4 4\nend"), 10)
        self.assert_no_pattern(PIECE + "seam 0 0 0 2\n2 2\nend\n", 5)
        self.assert_no_pattern(PIECE + "seam 7 7 7 7\n2 2\nend\n", 5)

    def test_how_many_corners(self):
        corners = "".join("{} {}\n".format(index, index * index) for index in range(20)).splitlines(True)
        for count in range(3, 17):
            self.assert_judged("piece p 1 0\n" + "".join(corners[:count]) + "end\n", 1, 0, count)
        for count in (17, 18, 20):
            self.assert_no_pattern("piece p 1 0\n" + "".join(corners[:count]) + "end\n", 17)
        self.assert_no_pattern(PIECE + "piece q 1 0\n" + "".join(corners[:17]) + "end\n", 21)
        self.assert_judged(PIECE + "piece q 1 0\n" + "".join(corners[:16]) + "end\n", 2, 0, 19)

    def test_fewer_than_three_corners(self):
        corners = TRIANGLE.splitlines(True)
        for count in range(3):
            begun = "piece z 1 0\n" + "".join(corners[:count])
            for line in ("end", "piece y 1 0", "seam 0 0 0 1"):
                self.assert_no_pattern(begun + line + "\n", 1 + count)
                self.assert_no_pattern(begun + line + "\n" + PIECE + "end\n", 1 + count)
                self.assert_no_pattern(PIECE + begun + line + "\n" + TRIANGLE + "end\n", 5 + count)
        self.assert_judged(PIECE + "end\n", 1, 0, 3)
        self.assert_judged(PIECE + SECOND + "end\n", 2, 0, 6)
        self.assert_judged(PIECE + "seam 0 0 0 2\nend\n", 1, 1, 1)

    def test_a_piece_behind_a_seam(self):
        self.assert_no_pattern(PIECE + "seam 0 0 0 2\n" + SECOND + "end\n", 5)
        self.assert_no_pattern(PATTERN.replace("end", SECOND + "end"), 10)

    def test_how_many_pieces(self):
        pieces = "".join("piece p{} 1 0\n".format(index) + TRIANGLE for index in range(8))
        self.assert_judged(pieces + "end\n", 8, 0, 24)
        self.assert_no_pattern(pieces + "piece p8 1 0\n" + TRIANGLE + "end\n", 32)
        self.assert_no_pattern(pieces + "piece p8 1 0\n", 32)
        self.assert_no_pattern(pieces + "piece p0 0 0\n", 32)

    def test_lines_behind_end(self):
        for line in ("end", "", "1 2", "seam 0 1 1 1", "piece z 1 0", "?", " "):
            self.assert_no_pattern(PATTERN + line + "\n", 11)
            self.assert_no_pattern(PATTERN + line + "\nend\n", 11)
        self.assert_no_pattern(PIECE + "end\n" + SECOND + "end\n", 5)

    def test_no_end(self):
        lines = PATTERN.splitlines(True)
        self.assert_no_pattern("", 0)
        for count in range(1, len(lines)):
            self.assert_no_pattern("".join(lines[:count]), count)

    def test_bytes_behind_the_last_line(self):
        for rest in ("e", "end", "?", " ", "1 2", "\x00"):
            self.assert_no_pattern(PATTERN + rest, 11)
            self.assert_no_pattern(rest, 0)
            self.assert_no_pattern(PIECE + rest, 4)
        self.assert_no_pattern(PATTERN[:-1], 10)
        self.assert_no_pattern(PIECE + "?\nend", 4)

    def test_the_first_of_several_is_told(self):
        self.assert_no_pattern(PIECE + "?\n??\nend\n", 4)
        self.assert_no_pattern(PIECE + "1 2\n01 2\n?\n", 5)
        self.assert_no_pattern("piece p 0 0\n0 0\n0 0\n0 0\n?\nend\n", 4)
        self.assert_no_pattern("piece p 0 0\n0 0\n0 0\nend\n", 3)


class MayBeTest(PatternCase):
    """What stands there and is no pattern that may be: the fault is how many lines there are."""

    def assert_may_not_be(self, text):
        self.assert_no_pattern(text, lines_in(text))
        self.assert_no_pattern(text + "more", lines_in(text))
        self.assert_no_pattern(text + "end\n", lines_in(text))

    def piece_of(self, *corners):
        return "piece z 1 0\n" + "".join("{} {}\n".format(x, y) for x, y in corners)

    def assert_no_corners(self, *corners):
        """These are no piece's corners, whichever is first, of the only, the first or the last piece."""
        rows = list(corners)
        for index in range(len(rows)):
            rows = rows[1:] + rows[:1]
            piece = self.piece_of(*rows)
            for text in (piece + "end\n", piece + PIECE + "end\n", PIECE + SECOND + piece + "seam 0 0 1 0\nend\n"):
                self.assert_may_not_be(text)

    def assert_corners(self, *corners):
        rows = list(corners)
        for index in range(len(rows)):
            rows = rows[1:] + rows[:1]
            self.assert_judged(self.piece_of(*rows) + "end\n", 1, 0, len(rows))
            self.assert_judged(PIECE + self.piece_of(*rows) + "end\n", 2, 0, len(rows) + 3)

    def test_clockwise(self):
        self.assert_no_corners((0, 0), (0, 1), (1, 0))
        self.assert_no_corners((0, 0), (0, 1), (1, 1), (1, 0))
        self.assert_no_corners(("1/2", "1/3"), ("1/2", "2/3"), ("3/4", "1/3"))

    def test_an_edge_with_no_length(self):
        self.assert_no_corners((0, 0), (0, 0), (1, 0), (0, 1))
        self.assert_no_corners((0, 0), (1, 0), (1, 0))

    def test_an_edge_that_goes_back(self):
        self.assert_no_corners((0, 0), (2, 0), (1, 0), (1, 1))
        self.assert_no_corners((0, 0), (1, 0), (2, 0))
        self.assert_no_corners((0, 0), (4, 0), (4, 4), (2, 4), (2, 6), (2, 4), (0, 4))

    def test_touching_itself(self):
        self.assert_no_corners((0, 0), (4, 0), (4, 4), (2, 0), (0, 4))
        self.assert_no_corners((0, 0), (4, 0), (4, 4), (3, 0), (1, 0), (0, 4))
        self.assert_no_corners((0, 0), (2, 2), (2, 0), (0, 2))
        self.assert_no_corners((0, 0), (2, 0), (1, 1), (2, 2), (0, 2), (1, 1))

    def test_corners_that_may_be(self):
        self.assert_corners((0, 0), (1, 0), (2, 0), (0, 2))
        self.assert_corners((0, 0), (1, 0), (2, 0), (1, 1), (0, 2), (0, 1))
        self.assert_corners((0, 0), (4, 0), (1, 1), (0, 4))
        self.assert_corners((0, 0), ("1/3", "1/7"), ("2/3", "2/7"), (0, 1))
        self.assert_corners((FINEST, -FINEST), (FINEST, FINEST), (-FINEST, FINEST), (FINEST - 1, 0))

    def test_a_grain_of_none(self):
        for text in (
            "piece p 0 0\n" + TRIANGLE + "end\n", PIECE + "piece q 0 0\n" + TRIANGLE + "end\n",
            "piece p 0 0\n" + TRIANGLE + SECOND + "seam 0 0 1 0\nend\n",
        ):
            self.assert_may_not_be(text)
        for grain in ("0 1", "1 0", "-1 0", "0 -1/2"):
            self.assert_judged("piece p " + grain + "\n" + TRIANGLE + "end\n", 1, 0, 3)

    def test_two_pieces_of_one_name(self):
        self.assert_may_not_be(PIECE + PIECE + "end\n")
        self.assert_may_not_be(PIECE + SECOND + PIECE + "end\n")
        self.assert_may_not_be(PIECE + SECOND + SECOND + "seam 0 0 1 0\nend\n")
        self.assert_judged(PIECE + PIECE.replace("p 1", "P 1") + PIECE.replace("p 1", "p1 1") + "end\n", 3, 0, 9)
        self.assert_judged(PIECE.replace("p 1", "1 1") + PIECE.replace("p 1", "01 1") + "end\n", 2, 0, 6)

    def assert_seams_may_not_be(self, *seams):
        self.assert_may_not_be(PIECES + "".join("seam " + seam + "\n" for seam in seams) + "end\n")

    def test_a_piece_that_is_not_there(self):
        for seam in ("4 0 0 0", "0 0 4 0", "9 0 0 0", "0 0 100 0", "4 0 4 0", "4 0 5 0", "0 0 18446744073709551616 0"):
            self.assert_seams_may_not_be(seam)

    def test_an_edge_that_is_not_there(self):
        for seam in ("0 3 1 0", "1 0 0 3", "0 0 3 4", "3 4 0 0", "0 0 1 16", "0 99 1 0", "0 3 1 3", "0 0 1 4294967296"):
            self.assert_seams_may_not_be(seam)
        self.assert_judged(PIECES + "seam 0 2 3 3\nend\n", 4, 1, 11)
        around = [(x, 0) for x in range(5)] + [(4, y) for y in range(1, 5)]
        around += [(x, 4) for x in range(3, -1, -1)] + [(0, y) for y in range(3, 0, -1)]
        for edge in (10, 15):
            self.assert_judged(self.piece_of(*around) + "seam 0 {} 0 2\nend\n".format(edge), 1, 1, 14)
        for edge in (16, 17, 100, 101, 150, 1000, 1500, 10 ** 20):
            self.assert_may_not_be(self.piece_of(*around) + "seam 0 {} 0 2\nend\n".format(edge))
            self.assert_may_not_be(self.piece_of(*around) + "seam 0 2 0 {}\nend\n".format(edge))

    def test_an_edge_with_itself(self):
        for seam in ("0 0 0 0", "3 2 3 2", "2 1 2 1"):
            self.assert_seams_may_not_be(seam)
            self.assert_seams_may_not_be("0 2 1 2", seam)

    def test_an_edge_twice(self):
        self.assert_seams_may_not_be("0 0 1 0", "0 0 1 0")
        self.assert_seams_may_not_be("0 0 1 0", "1 0 0 0")
        self.assert_seams_may_not_be("0 0 1 0", "0 0 3 0")
        self.assert_seams_may_not_be("0 0 1 0", "3 0 0 0")
        self.assert_seams_may_not_be("0 0 1 0", "1 0 3 0")
        self.assert_seams_may_not_be("0 0 1 0", "3 0 1 0")
        self.assert_seams_may_not_be("0 0 1 0", "3 0 3 2", "3 1 3 0")
        self.assert_judged(PIECES + "seam 0 0 1 0\nseam 3 0 3 2\nseam 3 1 3 3\nend\n", 4, 3, 7)

    def test_edges_of_two_lengths(self):
        for seam in ("0 0 2 0", "2 0 2 2", "0 1 3 1", "0 1 0 2", "2 1 0 1"):
            self.assert_seams_may_not_be(seam)
        for seam in ("2 0 2 2", "0 1 3 1", "0 1 0 2", "2 1 0 1"):
            self.assert_seams_may_not_be("0 0 1 0", seam)
        self.assert_judged(PIECES + "seam 0 1 1 1\nend\n", 4, 1, 11)

    def test_lengths_are_told_exactly(self):
        text = "piece p 1 0\n0 0\n1/3 0\n0 1/3\npiece q 1 0\n0 0\n1/5 4/15\n0 {}\n"
        self.assert_judged(text.format("1/3") + "seam 0 0 1 0\nseam 0 2 1 2\nend\n", 2, 2, 2)
        for number in ("333333333333333333/1000000000000000000", "1000000000000000001/3000000000000000000"):
            self.assert_judged(text.format(number) + "seam 0 0 1 0\nend\n", 2, 1, 4)
            self.assert_may_not_be(text.format(number) + "seam 0 2 1 2\nend\n")
