"""What the tests of drafts share: asking a call, looking at its answer's shape, sample drafts."""

import unittest

from seamdrafts.drafts import print_of, read

WORDS = "let point piece seam grain x y min max between meet foot mirror turn shift".split()

# Every statement, sum and place there is, in printed form.
WHOLE_DRAFT = """\
let a = 20.5;
let b = - a + 3 * (a - 1) / 2 - min(a, 4) * max(a, b);
point P = (a, b);
point Q = P;
point R = between(P, Q, 1 / 2);
point S = meet(P, Q, R, (0, 1));
point T = foot(P, Q, R);
point U = mirror(P, Q, R);
point V = turn(P, Q, R, S);
point W = shift(P, x(Q), y(R) - 1);
piece front (P, Q, R, S) grain P Q;
piece back (P, Q, R) grain Q R;
seam front P Q, back R P;
"""


def byte_list(text):
    """A text or bytes as the list of numbers that the calls take."""
    if isinstance(text, str):
        text = text.encode("ascii")
    return list(text)


class DraftCase(unittest.TestCase):
    def ask(self, call, text):
        """The call's answer; what was handed in must be as it was, and asking again must answer the same."""
        t = byte_list(text)
        kept = list(t)
        answer = call(t)
        self.assertIs(type(answer), list)
        for number in answer:
            self.assertIs(type(number), int)
        self.assertEqual(t, kept)
        self.assertEqual(call(t), answer)
        return answer

    def assert_count(self, text, count):
        self.assertEqual(self.ask(read, text), [count, 0, 0])

    def assert_printed(self, text, wanted):
        told = byte_list(wanted)
        answer = self.ask(print_of, text)
        self.assertEqual(bytes(answer[2:-1]).decode("ascii"), wanted)
        self.assertEqual(answer, [len(told), len(told)] + told + [0])

    def assert_fault(self, text, kind, place):
        """Both calls refuse the text, with this fault's kind and place."""
        for call in (read, print_of):
            self.assertEqual(self.ask(call, text), [-2, 0, 2, kind, place], text)

    def assert_too_long(self, text):
        for call in (read, print_of):
            self.assertEqual(self.ask(call, text), [-1, 0, 0])

    def assert_fault_at(self, marked, kind):
        """The fault is where the sign @ stands in the text, which is handed in without it."""
        place = marked.index("@")
        self.assert_fault(marked.replace("@", ""), kind, place)
