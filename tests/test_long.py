"""Over the whole program: texts as long and nested as deep as may be, with few calls left within one another."""

import sys
from fractions import Fraction

from seamdrafts.drafts import cut, draft, piece, print_of, read, value
from tests.asking import FINEST, PatternCase, WorkCase, handed_in, pattern_of, pattern_of_length

LONGEST = 4096

# Of 16 edges of length 1.
AROUND = [(x, 0) for x in range(5)] + [(4, y) for y in range(1, 5)]
AROUND += [(x, 4) for x in range(3, -1, -1)] + [(0, y) for y in range(3, 0, -1)]

# An edge of each piece is sewn to that edge of the next or the last, so that corners are led on through all pieces.
SEAMS = [
    "{} {} {} {}".format(k, edge, (k + 1) % 8, edge) for k in range(8) for edge in range(16) if k % 2 == edge % 2
]

SEWN = pattern_of([AROUND] * 8, *SEAMS)


def calls_within_one_another():
    """How many calls this one stands within."""
    count = 0
    frame = sys._getframe()
    while frame is not None:
        count += 1
        frame = frame.f_back
    return count


def within(depth, call, given):
    """The call's answer within so many calls."""
    return call(*given) if depth == 0 else within(depth - 1, call, given)


def filled(text, sign=" "):
    """The text with as many signs behind it as make it as long as may be."""
    return text + sign * (LONGEST - len(text))


class LongCase(WorkCase, PatternCase):
    def ask(self, call, *arguments):
        """As it's asked, with as few as 100 calls left of the thousand that may be within one another."""
        depth = 900 - calls_within_one_another()
        given = [handed_in(argument) for argument in arguments]
        answer = within(depth, call, given)
        self.assertEqual(super().ask(call, *arguments), answer)
        return answer

    def assert_length(self, text):
        self.assertEqual(len(text), LONGEST)


class LongDraftTest(LongCase):
    """Calls that take a draft's text."""

    def assert_long_let(self, begin, more, end, number):
        """A let of the name a as long as may be, with this repeated in its midst, meaning this number."""
        often = (LONGEST - len(begin + end)) // len(more)
        text = filled(begin + more * often + end)
        self.assert_length(text)
        self.assert_count(text, 1)
        answer = self.ask(print_of, text)
        again = bytes(answer[2:-1]).decode("ascii")
        self.assertEqual(again.replace(" ", ""), text.replace(" ", "") + "\n")
        self.assert_number(text, "a", number(often))
        self.assertEqual(self.ask(draft, text, ""), [-5, 0, 2, 1, 12])

    def test_long_sums(self):
        self.assert_long_let("let a=1", "+1", ";", lambda often: often + 1)
        self.assert_long_let("let a=1", "-1", ";", lambda often: 1 - often)
        self.assert_long_let("let a=0.5", "-1+1.5", ";", lambda often: Fraction(often + 1, 2))

    def test_long_products(self):
        self.assert_long_let("let a=3", "*1", ";", lambda often: 3)
        self.assert_long_let("let a=3", "/1", ";", lambda often: 3)
        self.assert_long_let("let a=3", "*2/7/2*7", ";", lambda often: 3)
        self.assert_long_let("let a=3", "*99999999999999999/99999999999999999", ";", lambda often: 3)
        self.assert_long_let("let a=3", "*-1", ";", lambda often: 3 * (-1) ** often)

    def test_long_and_deep(self):
        self.assert_long_let("let a=1", "-(1-(1-(1-(1-(1-2)))))", ";", lambda often: 1 + often)
        self.assert_long_let("let a=1", "+-----1", ";", lambda often: 1 - often)
        self.assert_long_let(
            "let a=1", "+min(max(min(max(min(5,6),3),4),2),7)", ";", lambda often: 1 + 4 * often,
        )
        self.assert_long_let(
            "let a=1", "+x(shift(shift(shift((2,3),1,1),1,1),1,1))", ";", lambda often: 1 + 5 * often,
        )
        self.assert_long_let(
            "let a=1", "+y(turn(between((0,0),(2,4),0.5),(0,0),(1,0),(0,1)))", ";", lambda often: 1 + often,
        )

    def test_sums_and_places_6_deep(self):
        text = "point P=(3,4);point O=(0,0);point Q=shift(shift(shift(shift(shift(P,1,1),1,1),1,1),1,1),1,1);"
        text += "point R=mirror(mirror(mirror(mirror(mirror(P,Q,O),P,O),P,O),P,O),P,O);"
        text += "let a=x((y((x(P),1)),1));let b=----y(P);let c=min(1,max(2,min(3,max(4,min(5,6)))));"
        text = filled(text, "#")
        self.assert_length(text)
        self.assert_count(text, 7)
        self.assert_point(text, "Q", 8, 9)
        self.assert_point(text, "R", Fraction(105, 29), Fraction(100, 29))
        for name, number in (("a", 1), ("b", 4), ("c", 1)):
            self.assert_number(text, name, number)
        self.assertEqual(self.ask(draft, text, ""), [-5, 0, 2, 7, 12])

    def test_too_deep(self):
        for begin, more, place in (
            ("let a=", "(", 11), ("let a=", "-", 11), ("let a=", "-(", 11), ("let a=1+", "-", 13),
            ("let a=", "x((", 14), ("let a=", "min(", 26), ("point P=", "shift(", 38), ("point P=", "(x(", 15),
        ):
            text = (begin + more * LONGEST)[:LONGEST]
            self.assert_fault(text, 2, place)
            for call, given in ((value, (text, "", "a")), (draft, (text, ""))):
                self.assertEqual(self.ask(call, *given), [-2, 0, 2, 2, place])

    def test_most_statements(self):
        text = "let a0=1;" + "".join("let a{}=a{}+1;".format(index, index - 1) for index in range(1, 128))
        self.assert_count(filled(text), 128)
        self.assert_number(filled(text, "\n"), "a127", 128)
        self.assertEqual(self.ask(draft, filled(text, "#"), ""), [-5, 0, 2, 128, 12])
        self.assertEqual(self.ask(print_of, filled(text))[0], len(text) + 4 * 127 + 128 + 2)
        self.assert_fault(filled(text + ";"), 2, len(text))

    def test_one_token_as_long_as_may_be(self):
        for text in ("a" * LONGEST, "1" * LONGEST, "1." + "1" * (LONGEST - 2), "$" * LONGEST, b"\xff" * LONGEST):
            self.assert_length(text)
            for call, more in ((read, ()), (print_of, ()), (value, ("", "")), (draft, ("",))):
                self.assertEqual(self.ask(call, text, *more), [-2, 0, 2, 1, 0])

    def test_nothing_but_blanks_and_remarks(self):
        for text in (" " * LONGEST, "\n" * LONGEST, "#" * LONGEST, "#\n" * 2048, "\n" + "#" * 4095):
            self.assert_count(text, 0)
            self.assert_printed(text, "")
            self.assert_no_meaning(text, "a", "")
            self.assertEqual(self.ask(draft, text, ""), [-5, 0, 2, 0, 12])

    def test_long_tables(self):
        rows = ["n234567890123{:03} -4611686018427387903/4611686018427387904\n".format(index) for index in range(32)]
        table = "".join(rows)
        for name in ("n234567890123000", "n234567890123031"):
            self.assert_number(filled(""), name, Fraction(1 - FINEST, FINEST), table)
        self.assert_no_meaning("", "n234567890123032", table)
        for text, line in (
            ("\n" * LONGEST, 0), ("a" * LONGEST, 0), ("a " + "1" * 4093 + "\n", 0), (table + rows[0][:-1] + "\n", 32),
            (filled(table, "a"), 32), (table + "b 1\n" * 300, 32), ("a 1\n" * 1024, 1),
        ):
            self.assertEqual(self.ask(value, "", text, "a"), [-3, 0, 2, line, 0])
            self.assertEqual(self.ask(draft, "", text), [-3, 0, 2, line, 0])

    def test_long_names(self):
        for name in ("a" * LONGEST, "a" * 17, "\n" * LONGEST, "a" + " " * 4095):
            self.assert_no_meaning("let a=1;", name, "")

    def test_a_whole_garment(self):
        names = "abcdefghijklmnop"
        text = "".join("point {}=({},{});".format(name, *corner) for name, corner in zip(names, AROUND))
        text += "".join("piece p{}({})grain a b;".format(k, ",".join(names)) for k in range(8))
        for seam in SEAMS:
            first, edge, second, other = [int(word) for word in seam.split()]
            ends = [(names * 2)[index:index + 2] for index in (edge, other)]
            text += "seam p{} {} {},p{} {} {};".format(first, *ends[0], second, *ends[1])
        self.assert_count(filled(text), 88)
        self.assert_pattern(filled(text, "\n"), SEWN, "")
        self.assert_pattern(filled(text, "#"), SEWN, "")
        self.assert_judged(SEWN, 8, 64, 0)


class LongPatternTest(LongCase):
    """Calls that take a pattern's text."""

    def test_texts_as_long_as_may_be(self):
        text = pattern_of_length(LONGEST)
        self.assert_length(text)
        self.assert_judged(text, 8, 0, 128)
        for k in (0, 7):
            answer = self.ask(piece, k, text)
            self.assertEqual([answer[0]] + answer[-3:], [16, 2, 2 * (15 ** 3 - 15) // 6, 1])
            self.assert_where(2, k, 10 ** 10 + 7, 10 ** 17 + 60, text)
            self.assert_where(1, k, 10 ** 10 + 15, 10 ** 17 + 225, text)
            self.assert_where(0, k, 0, 0, text)
            self.assert_ones(text, "{} 10000000007 100000000000000060".format(k))
            self.assertEqual(self.ask(cut, k, 0, 14, text), [1, 0, 0])
            self.assertEqual(self.ask(cut, k, 0, 15, text), [0, 0, 0])

    def test_most_seams(self):
        self.assertEqual(len(SEAMS), 64)
        self.assert_judged(SEWN, 8, 64, 0)
        self.assert_piece(7, SEWN, 16, "p7", 32)
        self.assert_where(1, 7, 4, Fraction(7, 2), SEWN)
        self.assert_where(2, 7, Fraction(1, FINEST), 1, SEWN)
        self.assertEqual(self.ask(cut, 7, 1, 11, SEWN), [1, 0, 0])

    def test_a_corner_led_on_through_all_seams(self):
        for first in range(16):
            places = [(step % 8, AROUND[(first + step) % 16]) for step in range(16)]
            if first % 2 == 1:
                places = [(-step % 8, AROUND[(first + step) % 16]) for step in range(16)]
            places = sorted(places)
            self.assert_ones(SEWN, *["{} {} {}".format(k, *corner) for k, corner in places])

    def test_long_lines(self):
        triangle = "piece p 1 0\n0 0\n1 0\n0 1\n"
        for text, line in (
            ("\n" * LONGEST, 0), ("a" * LONGEST, 0), (" " * LONGEST, 0), ("1" * 2047 + " " + "1" * 2047 + "\n", 0),
            ("piece " + "p" * LONGEST, 0), ("end\n" * 1024, 0), (triangle + "seam 0 0 0 " + "1" * 4059 + "\n", 5),
            ("piece p 1 0\n" + "0 0\n" * 1021, 17), (triangle + "end\n" * 1000, 5),
            (triangle + "seam 0 0 0 1\n" * 300, 304), (triangle + "seam 0 0 0 " + "1" * 4056 + "\nend\n", 6),
            (triangle + "end\n" + "a" * 4000, 5), (triangle * 151, 32), ("piece p 1 0\n" * 300, 1),
            (triangle + "seam " + "0 " * 2000 + "\n", 4), (triangle + "0 1/" + "3" * 4000 + "\n", 4),
        ):
            self.assert_no_pattern(text[:LONGEST], line)

    def test_too_long_by_one(self):
        for text in (" " * 4097, "#" * 4097, pattern_of_length(4097), SEWN + "\n" * (4097 - len(SEWN))):
            self.assertEqual(len(text), 4097)
            self.assert_too_long(text)
            self.assert_refused(text, [-1, 0, 0])
            for call, given in ((value, (text, "", "")), (value, ("", text, "")), (value, ("", "", text))):
                self.assertEqual(self.ask(call, *given), [-1, 0, 0])
            for given in ((text, ""), ("", text)):
                self.assertEqual(self.ask(draft, *given), [-1, 0, 0])
