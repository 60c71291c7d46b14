"""Promise 2: print_of gives a draft's one printed form."""

import ast
import re

from seamdrafts.drafts import print_of
from seamdrafts.grammar import read_draft
from tests.asking import WHOLE_DRAFT, WORDS, DraftCase, byte_list


def trees(size, signs):
    """All sums with so many signs, two parts with one between in parentheses, each name left open as _."""
    if size == 0:
        return ["_"]
    found = ["- " + part for part in trees(size - 1, signs)]
    for left in range(size):
        for first in trees(left, signs):
            for second in trees(size - 1 - left, signs):
                found += ["(" + first + " " + sign + " " + second + ")" for sign in signs]
    return found


def named(tree):
    """The names a, b, c ... in the open places."""
    names = iter("abcdefgh")
    return re.sub("_", lambda match: next(names), tree)


def reading(text):
    """How a sum is read, whatever its parentheses: Python's own reading of + - * / is the document's."""
    return ast.dump(ast.parse(text, mode="eval"))


def with_a_pair_less(text):
    """The text with each pair of parentheses left out in turn."""
    found, begun = [], []
    for index, sign in enumerate(text):
        if sign == "(":
            begun.append(index)
        elif sign == ")":
            begin = begun.pop()
            found.append(text[:begin] + text[begin + 1:index] + text[index + 1:])
    return found


class PrintCase(DraftCase):
    def assert_sum(self, text, wanted):
        """A sum's printed form, alone and as a part."""
        self.assert_printed("let a=" + text + ";", "let a = " + wanted + ";\n")
        self.assert_printed("let a=(" + text + ");", "let a = " + wanted + ";\n")
        self.assert_printed("let a=max(1," + text + ");", "let a = max(1, " + wanted + ");\n")
        self.assert_printed("point P=(" + text + ",1);", "point P = (" + wanted + ", 1);\n")

    def printed(self, text):
        answer = self.ask(print_of, text)
        self.assertGreaterEqual(answer[0], 0, text)
        return bytes(answer[2:-1]).decode("ascii")


class FormTest(PrintCase):
    def test_empty_drafts(self):
        self.assertEqual(self.ask(print_of, ""), [0, 0, 0])
        for text in ("", "  \n", "# a remark", "#\n # $"):
            self.assert_printed(text, "")

    def test_the_answers_shape(self):
        told = byte_list("let a = 1;\n")
        self.assertEqual(self.ask(print_of, "let a=1;"), [11, 11] + told + [0])
        self.assertEqual(print_of([]), [0, 0, 0])
        self.assertEqual(print_of([0]), [-2, 0, 2, 1, 0])
        self.assertEqual(print_of([32] * 4097), [-1, 0, 0])

    def test_the_printed_form_stays(self):
        self.assert_printed(WHOLE_DRAFT, WHOLE_DRAFT)
        for line in WHOLE_DRAFT.splitlines():
            self.assert_printed(line, line + "\n")

    def test_as_few_blanks_as_can_be(self):
        dense = re.sub(r" ?([(),=+*/;-]) ?", r"\1", WHOLE_DRAFT.replace("\n", ""))
        self.assertLess(len(dense), len(WHOLE_DRAFT) - 50)
        self.assert_printed(dense, WHOLE_DRAFT)

    def test_more_blanks_and_remarks(self):
        for between in ("  ", "\n", " \n\n ", "#\n", " # $ ) let\n", "#\xff\x00\t\n"):
            text = between.join(re.findall(r"[A-Za-z0-9.]+|[(),=+*/;-]", WHOLE_DRAFT))
            told = list((between + text + between).encode("latin-1"))
            self.assertEqual(bytes(print_of(told)[2:-1]).decode("ascii"), WHOLE_DRAFT)

    def test_statements(self):
        self.assert_printed("let a=1;", "let a = 1;\n")
        self.assert_printed("point P=Q;", "point P = Q;\n")
        self.assert_printed("piece p(a,b,c)grain d e;", "piece p (a, b, c) grain d e;\n")
        self.assert_printed("seam A P Q,B R S;", "seam A P Q, B R S;\n")
        self.assert_printed("let a=1;let b=2;\n\nlet c=3;", "let a = 1;\nlet b = 2;\nlet c = 3;\n")

    def test_corners(self):
        for count in range(3, 17):
            corners = ["c" + str(index) for index in range(count)]
            self.assert_printed(
                "piece p(" + ",".join(corners) + ")grain a b;",
                "piece p (" + ", ".join(corners) + ") grain a b;\n",
            )

    def test_words_and_their_parentheses(self):
        self.assert_sum("x ( P )", "x(P)")
        self.assert_sum("y (P)", "y(P)")
        self.assert_sum("min ( 1 , 2 )", "min(1, 2)")
        self.assert_sum("max(1,2)", "max(1, 2)")
        for text, wanted in (
            ("( 1 , 2 )", "(1, 2)"), ("between ( P , Q , 1 )", "between(P, Q, 1)"),
            ("meet(P,Q,R,S)", "meet(P, Q, R, S)"), ("foot (P,Q,R)", "foot(P, Q, R)"),
            ("mirror (P,Q,R)", "mirror(P, Q, R)"), ("turn (P,Q,R,S)", "turn(P, Q, R, S)"),
            ("shift (P,1,2)", "shift(P, 1, 2)"), ("shift((1,2),x(P),y((3,4)))", "shift((1, 2), x(P), y((3, 4)))"),
            ("foot((1,2),(3,4),foot(P,Q,R))", "foot((1, 2), (3, 4), foot(P, Q, R))"),
            ("shift(P,(a+b),(c))", "shift(P, a + b, c)"), ("((a),(b*c))", "(a, b * c)"),
        ):
            self.assert_printed("point P=" + text + ";", "point P = " + wanted + ";\n")

    def test_parts_keep_their_order(self):
        self.assert_printed("point P=turn(A,B,C,D);", "point P = turn(A, B, C, D);\n")
        self.assert_printed("point P=meet((1,2),a,(3,4),b);", "point P = meet((1, 2), a, (3, 4), b);\n")
        self.assert_printed("point P=between(A,(1,2),3-4);", "point P = between(A, (1, 2), 3 - 4);\n")

    def test_names_like_the_programs_own_words(self):
        for name in ("pair", "name", "number", "negative", "end", "bad", "sum", "place", "X", "Foot", "lets"):
            self.assert_printed(
                "piece " + name + "(" + name + ",b,c)grain " + name + " b;",
                "piece " + name + " (" + name + ", b, c) grain " + name + " b;\n",
            )
            self.assert_printed("let " + name + "=-" + name + "*(1);", "let " + name + " = - " + name + " * 1;\n")
            self.assert_printed("point " + name + "=" + name + ";", "point " + name + " = " + name + ";\n")

    def test_names_stay_as_they_are(self):
        for name in ("a", "Z9z", "a" * 16) + tuple([word + "0" for word in WORDS]):
            self.assert_printed("let " + name + "=" + name + ";", "let " + name + " = " + name + ";\n")


class NumberTest(PrintCase):
    def test_numbers(self):
        many = "123456789012345678"
        for text, wanted in (
            ("0", "0"), ("00", "0"), ("0.0", "0"), ("000.000", "0"), ("7", "7"), ("007", "7"), ("70", "70"),
            ("700", "700"), ("0700", "700"), ("20.5", "20.5"), ("020.50", "20.5"), ("20.50000", "20.5"),
            ("20.0", "20"), ("20.000", "20"), ("0.5", "0.5"), ("00.5", "0.5"), ("0.05", "0.05"), ("0.050", "0.05"),
            ("0.00", "0"), ("1.0", "1"), ("10.01", "10.01"), ("100.0", "100"), ("0010.0100", "10.01"),
            (many + "." + many, many + "." + many), ("0" * 17 + "1", "1"),
            ("0." + "0" * 17 + "1", "0." + "0" * 17 + "1"),
            ("1" + "0" * 17, "1" + "0" * 17), ("0" * 18 + "." + "0" * 18, "0"), ("1." + "0" * 18, "1"),
        ):
            self.assert_sum(text, wanted)

    def test_numbers_are_not_reckoned(self):
        self.assert_sum("1/2", "1 / 2")
        self.assert_sum("1+1", "1 + 1")
        self.assert_sum("--1", "- - 1")
        self.assert_sum("4/2*0", "4 / 2 * 0")


class ParenthesesTest(PrintCase):
    def test_wanted(self):
        for text, wanted in (
            ("a-(b-c)", "a - (b - c)"), ("a-(b+c)", "a - (b + c)"), ("a+(b-c)", "a + (b - c)"),
            ("a+(b+c)", "a + (b + c)"), ("a/(b*c)", "a / (b * c)"), ("a/(b/c)", "a / (b / c)"),
            ("a*(b*c)", "a * (b * c)"), ("a*(b/c)", "a * (b / c)"), ("-(a+b)", "- (a + b)"), ("-(a-b)", "- (a - b)"),
            ("-(a*b)", "- (a * b)"), ("-(a/b)", "- (a / b)"), ("(a+b)*c", "(a + b) * c"), ("(a-b)/c", "(a - b) / c"),
            ("a*(b+c)", "a * (b + c)"), ("a/(b-c)", "a / (b - c)"), ("a*-(b+c)", "a * - (b + c)"),
            ("a-(b-(c-d))", "a - (b - (c - d))"), ("-(-(a+b)*c)", "- (- (a + b) * c)"),
            ("(a+b)*(c+d)/(e-f)", "(a + b) * (c + d) / (e - f)"), ("((a+b)*c-d)/e", "((a + b) * c - d) / e"),
        ):
            self.assert_sum(text, wanted)

    def test_needless(self):
        for text, wanted in (
            ("(a)", "a"), ("(1.50)", "1.5"), ("((((a))))", "a"), ("(a+b)", "a + b"), ("((a*b))", "a * b"),
            ("(a-b)-c", "a - b - c"), ("(a+b)-c", "a + b - c"), ("((a-b)-c)-d", "a - b - c - d"),
            ("a-b-c", "a - b - c"), ("a+(b*c)", "a + b * c"), ("a-(b/c)", "a - b / c"), ("(a*b)+c", "a * b + c"),
            ("(a*b)*c", "a * b * c"), ("(a/b)/c", "a / b / c"), ("((a*b)/c)*d", "a * b / c * d"),
            ("-(a)", "- a"), ("-(1)", "- 1"), ("-(-a)", "- - a"), ("(-a)*b", "- a * b"), ("a*(-b)", "a * - b"),
            ("(-a)+b", "- a + b"), ("a+(-b)", "a + - b"), ("a-(-b)", "a - - b"), ("a/(-(b))", "a / - b"),
            ("(x(P))*(min((a),(b+c)))", "x(P) * min(a, b + c)"), ("-(max(a,b))", "- max(a, b)"),
            ("a-((b-c))", "a - (b - c)"), ("((a+b))*c", "(a + b) * c"), ("a+((b)*(c))", "a + b * c"),
            ("x(((a),(b)))", "x((a, b))"),
        ):
            self.assert_sum(text, wanted)

    def test_every_small_sum(self):
        found = [named(tree) for size in range(4) for tree in trees(size, "+-*/")]
        self.assertGreater(len(found), 400)
        for text in found:
            line = self.printed("let q=" + text + ";")
            self.assertTrue(line.startswith("let q = ") and line.endswith(";\n"))
            wanted = line[8:-2]
            self.assertEqual(reading(wanted), reading(text))
            for other in with_a_pair_less(wanted):
                self.assertNotEqual(reading(other), reading(text), wanted)

    def test_larger_sums_of_two_signs(self):
        for tree in trees(4, "-/"):
            text = named(tree)
            wanted = self.printed("let q=" + text + ";")[8:-2]
            self.assertEqual(reading(wanted), reading(text))
            for other in with_a_pair_less(wanted):
                self.assertNotEqual(reading(other), reading(text), wanted)

    def test_6_deep(self):
        self.assert_printed("let a=(((((1)))));", "let a = 1;\n")
        self.assert_printed("let a=1-(1-(1-(1-(1-(1-1)))));", "let a = 1 - (1 - (1 - (1 - (1 - (1 - 1)))));\n")
        self.assert_printed("let a=-----1;", "let a = - - - - - 1;\n")


class AgainTest(PrintCase):
    def assert_again(self, text):
        """The printed form is read again as the same draft, printed again it is the same text."""
        once = self.printed(text)
        self.assertEqual(read_draft(byte_list(once)), read_draft(byte_list(text)))
        self.assertEqual(self.printed(once), once)
        self.assert_count(once, once.count(";"))

    def test_printed_again(self):
        self.assert_again(WHOLE_DRAFT)
        self.assert_again("let a=-(a+(b))*((c))-(d-(e));point P=shift((1,007.50),x(Q),--3);piece p(a,b,c)grain a b;")
        for tree in trees(3, "-/"):
            self.assert_again("let q=" + named(tree) + ";")

    def test_same_draft_same_print(self):
        first = "let a = 1.5 - b * c;\npoint P = (a, x(Q));\n"
        for text in (
            "let a=1.50-(b*c);point P=(a,x(Q));", "let a=(01.5)-((b)*c); #\npoint P = ((a), (x (Q)));",
            "# one\nlet a # two\n = 1.5 - b * c ; point P=(a,x(Q))#\n;# three",
        ):
            self.assert_printed(text, first)

    def test_other_draft_other_print(self):
        texts = [
            "let a=1;", "let b=1;", "let a=2;", "let a=0.1;", "let a=10;", "let a=1.01;", "let a=b;", "let a=-1;",
            "let a=1-1;", "let a=1+1;", "let a=1*1;", "let a=1/1;", "let a=x(P);", "let a=y(P);", "let a=min(1,2);",
            "let a=max(1,2);", "let a=max(2,1);", "let a=1-1-1;", "let a=1-(1-1);", "let a=1+(1+1);", "let a=1+1+1;",
            "point a=b;", "point a=(1,1);", "point a=foot(b,c,d);", "point a=mirror(b,c,d);", "let a=1;let a=1;",
            "point a=meet(b,c,d,e);", "point a=turn(b,c,d,e);", "point a=shift(b,1,1);", "point a=between(b,c,1);",
            "piece a(b,c,d)grain b c;", "piece a(b,d,c)grain b c;", "piece a(b,c,d)grain c b;", "seam a b c,d e f;",
            "seam d e f,a b c;", "",
        ]
        self.assertEqual(len({self.printed(text) for text in texts}), len(texts))

    def test_longer_than_the_text(self):
        self.assert_printed("let a=1+2;", "let a = 1 + 2;\n")
        text = "let a=" + "+".join(["1"] * 2045) + ";"
        self.assertEqual(len(text), 4096)
        wanted = "let a = " + " + ".join(["1"] * 2045) + ";\n"
        self.assertGreater(len(wanted), 8000)
        self.assert_printed(text, wanted)

    def test_printed_forms_of_4096_and_4097_bytes(self):
        wanted = "let a = " + "1 + " * 1021 + "12;\n"
        self.assertEqual(len(wanted), 4096)
        self.assert_printed(wanted.replace(" ", "").replace("let", "let "), wanted)
        self.assert_printed(wanted, wanted)
        longer = wanted.replace("12;", "123;")
        self.assert_printed(longer.replace(" ", "").replace("let", "let "), longer)
        self.assert_too_long(longer)

    def test_many_statements(self):
        self.assert_printed("let a=1;" * 128, "let a = 1;\n" * 128)
        self.assert_printed("point P=foot((1,2),Q,R);" * 128, "point P = foot((1, 2), Q, R);\n" * 128)
