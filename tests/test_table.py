"""Promises 3 and 4: which texts are tables, and the first line that can't stand in one."""

from seamdrafts.drafts import draft, value
from tests.asking import FINEST, WORDS, WorkCase

TRIANGLE = "point P = (0, 0); point Q = (1, 0); point R = (0, 1); piece front (P, Q, R) grain P Q;"


class TableTest(WorkCase):
    def assert_no_table(self, table, line):
        """Both calls refuse the table, with this line."""
        self.assertEqual(self.ask(value, TRIANGLE, table, "a"), [-3, 0, 2, line, 0], table)
        self.assertEqual(self.ask(draft, TRIANGLE, table), [-3, 0, 2, line, 0], table)

    def assert_bad_line(self, line):
        """The line can't stand, wherever it does."""
        self.assert_no_table(line + "\n", 0)
        self.assert_no_table("m 1\nn 2\n" + line + "\n", 2)
        self.assert_no_table("m 1\n" + line + "\n" + line + "\n", 1)
        self.assert_no_table("m 1\n" + line + "\nm 1", 1)

    def assert_measure(self, text, number):
        """The number's text can stand behind a name, and means the number."""
        self.assert_number("", "waist", number, "waist " + text + "\n")
        self.assert_number("let b = waist;", "b", number, "waist " + text + "\nm 1\n")
        self.assert_number("let b = waist;", "b", number, "m 1\nwaist " + text + "\n")

    def test_the_empty_table(self):
        self.assert_no_meaning("", "a", "")
        self.assert_number("let a = 1;", "a", 1, "")

    def test_measures(self):
        table = "a 1\nb -2\nc 3/4\nd -5/6\ne 0\n"
        for name, number in (("a", 1), ("b", -2), ("c", "3/4"), ("d", "-5/6"), ("e", 0)):
            self.assert_number("", name, number, table)
            self.assert_number("let z = " + name + ";", "z", number, table)

    def many(self, count):
        return "".join("m" + str(index) + " " + str(index) + "\n" for index in range(count))

    def test_how_many_measures(self):
        for count in (31, 32):
            self.assert_number("", "m30", 30, self.many(count))
        self.assert_number("let a = m0 + m31;", "a", 31, self.many(32))
        self.assert_no_table(self.many(33), 32)
        self.assert_no_table(self.many(40), 32)
        self.assert_no_table(self.many(32) + "m0 1\n", 32)
        self.assert_no_table(self.many(32) + "?\n", 32)
        self.assert_no_table(self.many(32) + "more", 32)
        self.assert_no_table(self.many(20) + "?\n" + self.many(33), 20)

    def test_a_name_twice(self):
        self.assert_no_table("a 1\na 1\n", 1)
        self.assert_no_table("a 1\nb 2\na 3\nb 4\n", 2)
        self.assert_number("", "A", 2, "a 1\nA 2\n")

    def test_names(self):
        for name in ("a", "Z", "a0", "Z9Z9", "lets", "Let", "x1", "X", "a" * 16, "q" + "1" * 15):
            self.assert_number("", name, 7, name + " 7\n")
        for name in WORDS:
            self.assert_bad_line(name + " 7")
        for name in ("", "a" * 17, "1", "1a", "a_b", "a-b", "a.b", "-a", "a#", "a\t", "a;", "(a)", "?", "."):
            self.assert_bad_line(name + " 7")

    def test_strange_bytes(self):
        for byte in (0, 9, 13, 127, 128, 160, 178, 192, 233, 255):
            for line in (b"a\xff 1", b"\xffa 1", b"a\xff1", b"a 1\xff", b"a \xff", b"a \xff1"):
                table = b"m 1\n" + line.replace(b"\xff", bytes([byte])) + b"\nn 2\n"
                self.assert_no_table(table, 1)

    def test_blanks(self):
        for line in ("a", "a1", "a  1", " a 1", "a 1 ", "a ", " 1", " ", "", "a 1 2", "a b 1", "a 1/ 2", "a - 1"):
            self.assert_bad_line(line)

    def test_remarks_are_none_here(self):
        self.assert_no_table("# a\na 1\n", 0)
        self.assert_no_table("a 1# one\n", 0)
        self.assert_no_table("a 1\n\n", 1)
        self.assert_no_table("\n", 0)

    def test_the_last_line_wants_its_end(self):
        self.assert_no_table("a 1", 0)
        self.assert_no_table("a 1\nb 2", 1)
        self.assert_no_table("a 1\n ", 1)
        self.assert_no_table("?", 0)
        self.assert_no_table("?\na 1", 0)
        self.assert_no_table("a 1\nb\nc 2", 1)

    def test_numbers(self):
        for text in ("0", "1", "9", "10", "-1", "-10", "1/2", "-1/2", "22/7", "100/3", "7/10"):
            self.assert_measure(text, text)
        for text in (
            "00", "01", "007", "-01", "-0", "01/2", "1/02", "0/1", "0/2", "-0/2", "1/1", "5/1", "-5/1", "2/4", "6/4",
            "4/2", "-3/9", "1/0", "0/0", "-1/0", "1/-2", "-1/-2", "--1", "+1", "1/+2", "1/", "/2", "/", "-", "-/2",
            "1//2", "1/2/3", "1.5", "1.0", ".5", "1e3", "a", "1a", "0x1", "1_0", "1-", "1,5",
        ):
            self.assert_bad_line("waist " + text)

    def test_finest_numbers(self):
        for text in (
            str(FINEST), str(-FINEST), "1/" + str(FINEST), "-1/" + str(FINEST), str(FINEST) + "/" + str(FINEST - 1),
            str(-FINEST) + "/3", str(FINEST - 1) + "/" + str(FINEST), str(FINEST - 1), "3/" + str(FINEST),
        ):
            self.assert_measure(text, text)
        for text in (
            str(FINEST + 1), str(-FINEST - 1), "1/" + str(FINEST + 1), "-1/" + str(FINEST + 1),
            str(FINEST + 1) + "/2", "3/" + str(FINEST + 1), "2/" + str(2 * FINEST), str(2 * FINEST) + "/2",
            str(FINEST) + "/" + str(FINEST), str(10 ** 19), str(10 ** 20), str(FINEST) + "0",
            "1" + "0" * 700, "9" * 1900, "1/" + "9" * 1900, "0" * 1900, "1/" + "0" * 1900, "-" * 1900,
        ):
            self.assert_bad_line("waist " + text)
        for text in ("9" * 4000, "1/" + "9" * 4000):
            self.assert_no_table("m 1\nwaist " + text + "\n", 1)
