"""Over the whole program: calls one after another answer as each alone, and change nothing that's handed in."""

import unittest

from seamdrafts.drafts import cut, draft, judge, ones, piece, print_of, read, value, where
from tests.asking import byte_list, handed_in

DRAFTED = """\
let a=1.50;#one
point O=(0,0);point A=(2*2,0);point B=(0,a+a);
piece p(O,A,B)grain O B;piece q(A,B,O)grain O A;
seam p O A,q O A;
"""

PRINTED = """\
let a = 1.5;
point O = (0, 0);
point A = (2 * 2, 0);
point B = (0, a + a);
piece p (O, A, B) grain O B;
piece q (A, B, O) grain O A;
seam p O A, q O A;
"""

PATTERN = """\
piece p 0 3
0 0
4 0
0 3
piece q 4 0
4 0
0 3
0 0
seam 0 0 1 2
end
"""

SQUARE = "piece p 1 0\n0 0\n1 0\n1 1\n0 1\nend\n"

# Alike but for a corner.
OTHER_SQUARE = "piece p 1 0\n0 0\n1 0\n1/3 1/3\n0 1\nend\n"

LARGE = "piece p 1 0\n0 0\n4611686018427387904 0\n0 3\nend\n"

LONG = "\n" * 4097


def told(text, *signed):
    """The answer's list of this text, with how many bytes it is, and of these signed numbers."""
    return [len(text)] + answer_of(text, *signed)


def answer_of(text, *signed):
    """What's behind an answer's number."""
    return [len(text)] + byte_list(text) + [len(signed)] + list(signed)


# Each a call, what is handed in, and its answer.
ASKED = [
    (read, (DRAFTED,), [7, 0, 0]),
    (read, (PRINTED,), [7, 0, 0]),
    (read, ("",), [0, 0, 0]),
    (read, ("let a=;",), [-2, 0, 2, 2, 6]),
    (read, ("let a=1$;",), [-2, 0, 2, 1, 7]),
    (read, (LONG,), [-1, 0, 0]),
    (print_of, (DRAFTED,), told(PRINTED)),
    (print_of, (PRINTED,), told(PRINTED)),
    (print_of, ("let a=-(1)*(2);",), told("let a = - 1 * 2;\n")),
    (print_of, ("let a=((1;",), [-2, 0, 2, 2, 9]),
    (print_of, (LONG,), [-1, 0, 0]),
    (value, (DRAFTED, "", "a"), [1, 0, 2, 3, 2]),
    (value, (DRAFTED, "c 5\n", "c"), [1, 0, 2, 5, 1]),
    (value, (DRAFTED, "c 7\n", "c"), [1, 0, 2, 7, 1]),
    (value, (DRAFTED, "", "c"), [0, 0, 0]),
    (value, (DRAFTED, "", "B"), [2, 0, 4, 0, 1, 3, 1]),
    (value, (DRAFTED, "", "p"), [0, 0, 0]),
    (value, (DRAFTED, "a 1\n", "a"), [-5, 0, 2, 0, 1]),
    (value, (DRAFTED, "a\n", "a"), [-3, 0, 2, 0, 0]),
    (value, ("let", "", "a"), [-2, 0, 2, 2, 3]),
    (value, ("", "", LONG), [-1, 0, 0]),
    (draft, (DRAFTED, ""), told(PATTERN)),
    (draft, (PRINTED, "w 9\n"), told(PATTERN)),
    (draft, ("let a=1;", ""), [-5, 0, 2, 1, 12]),
    (draft, ("let a=b;", ""), [-5, 0, 2, 0, 2]),
    (draft, ("let a=b;", "b 1\n"), [-5, 0, 2, 1, 12]),
    (draft, (DRAFTED, "b 1\nb 2\n"), [-3, 0, 2, 1, 0]),
    (draft, (DRAFTED, LONG), [-1, 0, 0]),
    (judge, (PATTERN,), [0, 0, 3, 2, 1, 4]),
    (judge, (SQUARE,), [0, 0, 3, 1, 0, 4]),
    (judge, (PATTERN[:-1],), [-2, 0, 2, 9, 0]),
    (judge, (LONG,), [-1, 0, 0]),
    (piece, (0, PATTERN), [3] + answer_of("p", 12, 1)),
    (piece, (1, PATTERN), [3] + answer_of("q", 12, 1)),
    (piece, (0, OTHER_SQUARE), [4] + answer_of("p", 2, 3)),
    (piece, (2, PATTERN), [-4, 0, 0]),
    (piece, (0, LARGE), [-6, 0, 0]),
    (where, (0, 1, 1, 1, 1, PATTERN), [2, 0, 0]),
    (where, (1, 0, 1, 1, 1, PATTERN), [1, 0, 0]),
    (where, (0, 1, 2, 1, 2, SQUARE), [2, 0, 0]),
    (where, (0, 1, 2, 1, 2, OTHER_SQUARE), [0, 0, 0]),
    (where, (0, 2, 4, 1, 2, SQUARE), [-1, 0, 0]),
    (where, (1, 1, 2, 1, 2, SQUARE), [-4, 0, 0]),
    (ones, (0, 1, 1, 0, 1, PATTERN), told("0 1 0\n1 3 0\n")),
    (ones, (1, 3, 1, 0, 1, PATTERN), told("0 1 0\n1 3 0\n")),
    (ones, (1, 1, 1, 1, 1, PATTERN), told("1 1 1\n")),
    (ones, (0, 9, 1, 1, 1, PATTERN), [-4, 0, 0]),
    (ones, (0, 1, 4611686018427387904, 0, 1, PATTERN), [-6, 0, 0]),
    (ones, (0, 1, 0, 0, 1, PATTERN), [-1, 0, 0]),
    (cut, (0, 0, 2, SQUARE), [1, 0, 0]),
    (cut, (0, 1, 3, OTHER_SQUARE), [0, 0, 0]),
    (cut, (0, 2, 0, OTHER_SQUARE), [1, 0, 0]),
    (cut, (0, 0, 4, SQUARE), [0, 0, 0]),
    (cut, (1, 0, 2, SQUARE), [-4, 0, 0]),
    (cut, (0, 0, 2, SQUARE + "?"), [-2, 0, 2, 6, 0]),
]


class TogetherTest(unittest.TestCase):
    def given(self, arguments):
        return [handed_in(argument) for argument in arguments]

    def test_each_by_itself(self):
        for call, arguments, wanted in ASKED:
            given = self.given(arguments)
            self.assertEqual(call(*given), wanted, (call.__name__, arguments))
            self.assertEqual(given, self.given(arguments))
        self.assertEqual(len({call for call, arguments, wanted in ASKED}), 9)

    def test_two_one_after_another(self):
        rows = [(call, self.given(arguments), wanted) for call, arguments, wanted in ASKED]
        for first, first_given, first_wanted in rows:
            for second, second_given, second_wanted in rows:
                self.assertEqual(first(*first_given), first_wanted, (first.__name__, second.__name__))
                self.assertEqual(second(*second_given), second_wanted, (first.__name__, second.__name__))
        for (call, arguments, wanted), (same_call, given, same_wanted) in zip(ASKED, rows):
            self.assertEqual(given, self.given(arguments))

    def test_each_thrice(self):
        for call, arguments, wanted in ASKED:
            for again in range(3):
                self.assertEqual(call(*self.given(arguments)), wanted)

    def test_an_answer_that_is_changed_changes_no_other(self):
        for call, arguments, wanted in ASKED:
            given = self.given(arguments)
            answer = call(*given)
            answer.extend([1, 2, 3])
            answer[0] = 99
            self.assertEqual(call(*given), wanted)
            self.assertEqual(given, self.given(arguments))

    def test_what_is_handed_in_may_be_changed_behind_a_call(self):
        for call, arguments, wanted in ASKED:
            given = self.given(arguments)
            first = call(*given)
            for argument in given:
                if isinstance(argument, list):
                    argument[:] = [255] * 3
            self.assertEqual(first, wanted)
            self.assertEqual(call(*self.given(arguments)), wanted)

    def test_one_list_for_several(self):
        """The same list handed in as a draft, a table and a name."""
        for text, asked, wanted in (
            ("", value, [0, 0, 0]), ("", draft, [-5, 0, 2, 0, 12]), (LONG, value, [-1, 0, 0]),
            ("#a", value, [-3, 0, 2, 0, 0]), ("#a 1\n", draft, [-3, 0, 2, 0, 0]),
        ):
            given = byte_list(text)
            self.assertEqual(asked(given, given, given) if asked == value else asked(given, given), wanted)
            self.assertEqual(given, byte_list(text))

    def test_whole_numbers_in_a_list(self):
        for call, arguments, wanted in ASKED:
            answer = call(*self.given(arguments))
            self.assertIs(type(answer), list)
            self.assertEqual({type(number) for number in answer}, {int})

    def test_bytes_told_are_bytes(self):
        for call, arguments, wanted in ASKED:
            answer = call(*self.given(arguments))
            count = answer[1]
            self.assertTrue(all(0 <= byte <= 255 for byte in answer[2:2 + count]))
            self.assertEqual(answer[2 + count], len(answer) - 3 - count)
            self.assertTrue(all(-2 ** 63 <= number < 2 ** 63 for number in answer[3 + count:]))
