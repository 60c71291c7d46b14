"""What the tests of drafts share: asking a call, looking at its answer's shape, sample drafts."""

import unittest
from fractions import Fraction

from seamdrafts.drafts import cut, draft, judge, ones, piece, print_of, read, value, where

WORDS = "let point piece seam grain x y min max between meet foot mirror turn shift".split()

FINEST = 2 ** 62

# What isn't two numbers in lowest terms: what's above the line, what's below it.
NO_NUMBERS = [
    (0, 0), (1, 0), (-1, 0), (0, -1), (1, -1), (-1, -1), (-1, -2), (0, 2), (0, FINEST), (2, 2), (2, 4), (-2, 4),
    (-6, 9), (15, 35), (FINEST, 2), (2, FINEST), (-2, FINEST), (FINEST, FINEST), (FINEST + 1, 1),
    (-FINEST - 1, 1), (1, FINEST + 1), (0, FINEST + 1), (FINEST + 1, FINEST), (FINEST, FINEST + 1),
    (2 ** 63 - 1, 1), (1, 2 ** 63 - 1), (2 ** 63 - 1, 2 ** 63 - 1), (-2 ** 63, 1), (1, -2 ** 63),
    (-2 ** 63, -2 ** 63), (-2 ** 63, 2 ** 63 - 1), (2 ** 63 - 1, -2 ** 63), (-1, 2 ** 63 - 1),
]

# Every statement, sum and place there is, in printed form.
WHOLE_DRAFT = """\
let a = 20.5;
let b = - a + 3 * (a - 1) / 2 - min(a, 4) * max(a, b);
point P = (a, b);
point Q = P;
point R = between(P, Q, 1 / 2);
point S = meet(P, Q, R, (0, 1));
point T = foot(P, Q, R);
point U = mirror(P, Q, R);
point V = turn(P, Q, R, S);
point W = shift(P, x(Q), y(R) - 1);
piece front (P, Q, R, S) grain P Q;
piece back (P, Q, R) grain Q R;
seam front P Q, back R P;
"""

# A draft that can be worked, of 7 statements: a 4 by 3 rectangle, and the half of it, with a side of 5.
WORKED_DRAFT = """\
let a = 2;
point O = (0, 0);
point A = (4, 0);
point B = (4, 3);
point C = (0, 3);
piece front (O, A, B, C) grain O C;
piece back (O, A, B) grain O A;
"""

# Measures at the finest, and others.
TABLE = "f 4611686018427387904\ng -4611686018427387904\nh 1/4611686018427387904\nwaist 171/2\nnought 0\n"


# The text of the pattern that it means, with a seam more.
PATTERN = """\
piece front 0 3
0 0
4 0
4 3
0 3
piece back 4 0
0 0
4 0
4 3
seam 0 0 1 0
end
"""


def byte_list(text):
    """A text or bytes as the list of numbers that the calls take."""
    if isinstance(text, str):
        text = text.encode("ascii")
    return list(text)


def handed_in(given):
    """What a call takes for a number, a text or bytes."""
    return given if isinstance(given, int) else byte_list(given)


def point_numbers(x, y):
    """A point's four numbers, as they are handed in and told."""
    numbers = []
    for number in (Fraction(x), Fraction(y)):
        numbers += [number.numerator, number.denominator]
    return numbers


def pattern_of(pieces, *seams):
    """The text of a pattern of pieces, of each its corners, and of seams, of each its four numbers' text."""
    text = ""
    for index, corners in enumerate(pieces):
        text += "piece p{} 1 0\n".format(index) + "".join("{} {}\n".format(x, y) for x, y in corners)
    return text + "".join("seam " + seam + "\n" for seam in seams) + "end\n"


def pattern_of_length(length):
    """The text of a pattern of 8 pieces with 16 corners each that has so many bytes, 4,068 at least."""
    corners = "".join("{} {}\n".format(10 ** 10 + index, 10 ** 17 + index * index) for index in range(16))
    more = length - 4068
    text = ""
    for index in range(8):
        longer = min(more, 15)
        more -= longer
        text += "piece " + str(index) + "q" * longer + " 1 0\n" + corners
    return text + "end\n"


class DraftCase(unittest.TestCase):
    def ask(self, call, *arguments):
        """The call's answer; what was handed in must be as it was, and asking again must answer the same."""
        given = [handed_in(argument) for argument in arguments]
        kept = [handed_in(argument) for argument in arguments]
        answer = call(*given)
        self.assertIs(type(answer), list)
        for number in answer:
            self.assertIs(type(number), int)
        self.assertEqual(given, kept)
        self.assertEqual(call(*given), answer)
        return answer

    def assert_count(self, text, count):
        self.assertEqual(self.ask(read, text), [count, 0, 0])

    def assert_printed(self, text, wanted):
        told = byte_list(wanted)
        answer = self.ask(print_of, text)
        self.assertEqual(bytes(answer[2:-1]).decode("ascii"), wanted)
        self.assertEqual(answer, [len(told), len(told)] + told + [0])

    def assert_fault(self, text, kind, place):
        """All calls refuse the text, with this fault's kind and place."""
        fault = [-2, 0, 2, kind, place]
        for call in (read, print_of):
            self.assertEqual(self.ask(call, text), fault, text)

    def assert_too_long(self, text):
        for call in (read, print_of):
            self.assertEqual(self.ask(call, text), [-1, 0, 0])

    def assert_fault_at(self, marked, kind):
        """The fault is where the sign @ stands in the text, which is handed in without it."""
        place = marked.index("@")
        self.assert_fault(marked.replace("@", ""), kind, place)


class WorkCase(DraftCase):
    def assert_number(self, text, name, number, table=TABLE):
        """The name means this number behind all statements."""
        wanted = Fraction(number)
        answer = self.ask(value, text, table, name)
        self.assertEqual(answer, [1, 0, 2, wanted.numerator, wanted.denominator], text)

    def assert_point(self, text, name, x, y, table=TABLE):
        """The name means this point behind all statements."""
        self.assertEqual(self.ask(value, text, table, name), [2, 0, 4] + point_numbers(x, y), text)

    def assert_no_meaning(self, text, name, table=TABLE):
        self.assertEqual(self.ask(value, text, table, name), [0, 0, 0], text)

    def assert_pattern(self, text, wanted, table=TABLE):
        """The draft means the pattern with this text."""
        told = byte_list(wanted)
        answer = self.ask(draft, text, table)
        self.assertEqual(bytes(answer[2:-1]).decode("ascii"), wanted)
        self.assertEqual(answer, [len(told), len(told)] + told + [0])

    def assert_not_worked(self, text, statement, kind, table=TABLE):
        """Both calls refuse to work the text, with this fault's statement and kind."""
        fault = [-5, 0, 2, statement, kind]
        self.assertEqual(self.ask(draft, text, table), fault, text)
        self.assertEqual(self.ask(value, text, table, "a"), fault, text)

    def assert_next_fault(self, statement, kind):
        """The statement behind those of the draft that can be worked has a fault of this kind."""
        self.assert_not_worked(WORKED_DRAFT + statement, 7, kind)
        self.assert_not_worked(WORKED_DRAFT + statement + " let zzz = 1 / 0; let a = 3;", 7, kind)

    def assert_next_worked(self, statement):
        """The statement behind those of the draft that can be worked can be, too."""
        self.assertGreater(self.ask(draft, WORKED_DRAFT + statement, TABLE)[0], 0, statement)


class PatternCase(DraftCase):
    def assert_judged(self, text, pieces, seams, hems):
        """The text is a pattern's, of so many pieces, seams and hems."""
        self.assertEqual(self.ask(judge, text), [0, 0, 3, pieces, seams, hems], text)

    def assert_piece(self, k, text, corners, name, area):
        """The pattern's piece k has so many corners, this name, twice this area."""
        twice = Fraction(area)
        told = byte_list(name)
        wanted = [corners, len(told)] + told + [2, twice.numerator, twice.denominator]
        self.assertEqual(self.ask(piece, k, text), wanted, text)

    def assert_where(self, wanted, k, x, y, text):
        """The point lies so to the pattern's piece k."""
        self.assertEqual(self.ask(where, k, *point_numbers(x, y), text), [wanted, 0, 0], (k, x, y, text))

    def assert_ones(self, text, *lines):
        """The places of these lines are one, told in this order whichever of them is asked of."""
        wanted = "".join(line + "\n" for line in lines)
        told = byte_list(wanted)
        for line in lines:
            words = line.split()
            answer = self.ask(ones, int(words[0]), *point_numbers(words[1], words[2]), text)
            self.assertEqual(bytes(answer[2:-1]).decode("ascii"), wanted, line)
            self.assertEqual(answer, [len(told), len(told)] + told + [0])

    def assert_no_ones(self, refusal, k, x, y, text):
        """The call that tells which places are one is refused with this number."""
        self.assertEqual(self.ask(ones, k, *point_numbers(x, y), text), [refusal, 0, 0], (k, x, y, text))

    def assert_no_point(self, call, k, text):
        """The call refuses every point that is none, for its x, its y and both."""
        for above, below in NO_NUMBERS:
            for numbers in ((above, below, 0, 1), (0, 1, above, below), (above, below, above, below)):
                self.assertEqual(self.ask(call, k, *numbers, text), [-1, 0, 0], numbers)

    def assert_no_pattern(self, text, line):
        """All calls of patterns refuse the text, with this line."""
        for k in (0, 1, 8, 2 ** 64 - 1):
            self.assert_refused(text, [-2, 0, 2, line, 0], k)

    def assert_refused(self, text, refusal, k=0):
        """All calls of patterns refuse the text so."""
        self.assertEqual(self.ask(judge, text), refusal, text)
        self.assertEqual(self.ask(piece, k, text), refusal, text)
        for call in (where, ones):
            self.assertEqual(self.ask(call, k, 0, 1, 0, 1, text), refusal, text)
        self.assertEqual(self.ask(cut, k, 0, 2, text), refusal, text)
