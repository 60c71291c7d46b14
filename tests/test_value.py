"""Promise 3: value tells what a name means behind all statements."""

from seamdrafts.drafts import draft, value
from tests.asking import FINEST, TABLE, WORDS, WORKED_DRAFT, WorkCase, byte_list


class ValueTest(WorkCase):
    def test_the_answers_shape(self):
        self.assertEqual(value(byte_list("let a = 3 / 6;"), [], [97]), [1, 0, 2, 1, 2])
        self.assertEqual(value(byte_list("point P = (1 - 2, 0.75);"), [], [80]), [2, 0, 4, -1, 1, 3, 4])
        self.assertEqual(value([], [], []), [0, 0, 0])
        self.assertEqual(value([32] * 4097, [], []), [-1, 0, 0])
        self.assertEqual(value([0], [], []), [-2, 0, 2, 1, 0])
        self.assertEqual(value([], [0], []), [-3, 0, 2, 0, 0])
        self.assertEqual(value(byte_list("let a = b;"), [], []), [-5, 0, 2, 0, 2])

    def test_numbers(self):
        self.assert_number("let a = 7;", "a", 7)
        self.assert_number("let a = 7; let b = a / 2; let c = a * b;", "b", "7/2")
        self.assert_number("let a = 7; let b = a / 2; let c = a * b;", "c", "49/2")
        self.assert_number(WORKED_DRAFT, "a", 2)

    def test_points(self):
        self.assert_point(WORKED_DRAFT, "B", 4, 3)
        self.assert_point("let a = 1 / 3; point P = (a, - a); point Q = P;", "P", "1/3", "-1/3")
        self.assert_point("let a = 1 / 3; point P = (a, - a); point Q = P;", "Q", "1/3", "-1/3")
        self.assert_point("point P = (waist, nought);", "P", "171/2", 0)

    def test_names_of_the_table(self):
        for text in ("", "let a = f - 1;", WORKED_DRAFT):
            self.assert_number(text, "f", FINEST)
            self.assert_number(text, "g", -FINEST)
            self.assert_number(text, "h", "1/4611686018427387904")
            self.assert_number(text, "waist", "171/2")
            self.assert_number(text, "nought", 0)

    def test_pieces_mean_no_number(self):
        self.assert_no_meaning(WORKED_DRAFT, "front")
        self.assert_no_meaning(WORKED_DRAFT, "back")

    def test_names_of_none(self):
        for name in ("b", "A0", "aa", "F", "wais", "waist1", "o", "fron"):
            self.assert_no_meaning(WORKED_DRAFT, name)

    def test_what_is_no_name(self):
        self.assert_no_meaning(WORKED_DRAFT, "")
        for name in (" ", "a ", " a", "a\n", "\na", "a;", "#a", "2", "1/2", "a = 2", "(O)", "?", "-a"):
            self.assert_no_meaning(WORKED_DRAFT, name)
        for name in (b"\x00", b"a\x00", b"\xe1", b"a\xff", bytes(range(256))):
            self.assert_no_meaning(WORKED_DRAFT, name)
        for name in ("a" * 16, "a" * 17, "a" * 4096):
            self.assert_no_meaning(WORKED_DRAFT, name)
        for word in WORDS:
            self.assert_no_meaning(WORKED_DRAFT, word)

    def test_long_names(self):
        name = "Z9" * 8
        self.assert_number("let " + name + " = 4;", name, 4)
        self.assert_no_meaning("let " + name + " = 4;", name[:-1])
        self.assert_no_meaning("let " + name + " = 4;", name + "9")

    def test_a_draft_without_a_piece(self):
        self.assert_no_meaning("", "a", "")
        self.assert_number("let a = 1;", "a", 1)
        self.assert_point("point P = (1, 2);", "P", 1, 2)
        self.assert_no_meaning("# nothing", "P")

    def test_a_name_means_something_behind_all_statements(self):
        self.assert_number("let a = 1; let b = a; let c = 5;", "a", 1)
        self.assertEqual(self.ask(value, "let a = 1; let b = c; let c = 5;", "", "a"), [-5, 0, 2, 1, 2])
        self.assertEqual(self.ask(value, "let a = 1; let a = 2;", "", "a"), [-5, 0, 2, 1, 1])

    def test_nothing_is_kept_between_calls(self):
        self.assert_number("let a = 1;", "a", 1, "")
        self.assert_number("let a = b;", "a", 2, "b 2\n")
        self.assert_number("let a = b;", "a", 3, "b 3\n")
        self.assertEqual(self.ask(value, "let a = b;", "", "a"), [-5, 0, 2, 0, 2])
        self.assert_no_meaning("", "a", "")


GOOD = "point P = (0, 0); point Q = (1, 0); point R = (0, 1); piece p (P, Q, R) grain P Q;"
NOT_WORKED = "let a = 1; let b = c;"
NO_DRAFT = "let a = ;"
NO_TABLE = "a 1\nb 2\nc\n"


class RefusalTest(WorkCase):
    """The refusals that both calls have, in their order."""

    def assert_refused(self, text, table, wanted):
        self.assertEqual(self.ask(draft, text, table), wanted)
        self.assertEqual(self.ask(value, text, table, "P"), wanted)

    def padded(self, text, length):
        return text + "#" * (length - len(text))

    def test_texts_as_long_as_may_be(self):
        for text in (GOOD, "let a = 1;" + GOOD):
            long = self.padded(text, 4096)
            self.assertEqual(self.ask(draft, long, ""), self.ask(draft, text, ""))
            self.assertEqual(self.ask(value, long, "", "P"), [2, 0, 4, 0, 1, 0, 1])
        self.assert_refused(self.padded(NOT_WORKED, 4096), "", [-5, 0, 2, 1, 2])
        self.assert_refused(NO_DRAFT[:-1] + " " * 4088, "", [-2, 0, 2, 2, 4096])
        self.assert_refused(GOOD, "a" * 4096, [-3, 0, 2, 0, 0])
        self.assert_refused(GOOD, "a 1\n" * 1024, [-3, 0, 2, 1, 0])
        self.assertEqual(self.ask(value, GOOD, "", "P" * 4096), [0, 0, 0])

    def test_texts_too_long(self):
        for length in (4097, 4200):
            self.assert_refused(self.padded(GOOD, length), "", [-1, 0, 0])
            self.assert_refused(GOOD, "a" * length, [-1, 0, 0])
            self.assert_refused(GOOD, "\n" * length, [-1, 0, 0])
            self.assertEqual(self.ask(value, GOOD, "", "P" * length), [-1, 0, 0])
            self.assertEqual(self.ask(value, GOOD, "", b"\x00" * length), [-1, 0, 0])

    def test_too_long_goes_before_all_others(self):
        long_name, long_table = "P" * 4097, "a" * 4097
        for text in (GOOD, NOT_WORKED, NO_DRAFT, "$", ""):
            self.assert_refused(text, long_table, [-1, 0, 0])
            self.assert_refused(self.padded(text, 4097), NO_TABLE, [-1, 0, 0])
            self.assert_refused(self.padded(text, 4097), long_table, [-1, 0, 0])
            for table in ("", NO_TABLE, long_table):
                self.assertEqual(self.ask(value, text, table, long_name), [-1, 0, 0])
        self.assert_refused("$" * 4097, "", [-1, 0, 0])

    def test_no_draft(self):
        for table in ("", TABLE):
            self.assert_refused(NO_DRAFT, table, [-2, 0, 2, 2, 8])
            self.assert_refused(GOOD + "let a = 1$;", table, [-2, 0, 2, 1, len(GOOD) + 9])
            self.assert_refused(GOOD[:-1], table, [-2, 0, 2, 2, len(GOOD) - 1])

    def test_no_draft_goes_before_no_table(self):
        for table in (NO_TABLE, "a", "\n"):
            self.assert_refused(NO_DRAFT, table, [-2, 0, 2, 2, 8])

    def test_no_draft_goes_before_what_cannot_be_worked(self):
        self.assert_refused("let a = b; " + NO_DRAFT, "", [-2, 0, 2, 2, 19])

    def test_no_table(self):
        self.assert_refused(GOOD, NO_TABLE, [-3, 0, 2, 2, 0])
        self.assert_refused("", NO_TABLE, [-3, 0, 2, 2, 0])

    def test_no_table_goes_before_what_cannot_be_worked(self):
        for text in (NOT_WORKED, "let P = P;", "let a = 5;"):
            self.assert_refused(text, NO_TABLE, [-3, 0, 2, 2, 0])

    def test_what_cannot_be_worked(self):
        self.assert_refused(NOT_WORKED, "", [-5, 0, 2, 1, 2])
        self.assert_refused(GOOD + NOT_WORKED, "", [-5, 0, 2, 5, 2])
        self.assert_refused(GOOD + NOT_WORKED, "c 1\na 1\n", [-5, 0, 2, 4, 1])
