"""Promise 1: read tells how many statements a draft has."""

from seamdrafts.drafts import read
from tests.asking import WHOLE_DRAFT, WORDS, DraftCase


class ReadTest(DraftCase):
    def test_every_statement_is_counted(self):
        lines = WHOLE_DRAFT.splitlines(True)
        for count in range(len(lines) + 1):
            self.assert_count("".join(lines[:count]), count)

    def test_each_statement_by_itself(self):
        for line in WHOLE_DRAFT.splitlines():
            self.assert_count(line, 1)

    def test_names_need_not_be_known(self):
        self.assert_count("let a = a; let a = b; seam A A A, A A A;", 3)

    def test_nothing_is_kept_between_calls(self):
        self.assert_count("let a = 1;", 1)
        self.assert_fault("let a = ", 2, 8)
        self.assert_too_long(" " * 4097)
        self.assert_count("let a = 1;", 1)

    def test_empty_drafts(self):
        for text in ("", " ", "\n", " \n \n", "#", "# a remark", "# a remark\n", "#\n#\n # let a = 1;", "#" * 4096):
            self.assert_count(text, 0)

    def test_remark_at_the_end(self):
        for end in ("#", " # the end", "#\n", "# one\n# two"):
            self.assert_count("let a = 1;" + end, 1)

    def test_any_bytes_in_a_remark(self):
        strange = bytes([byte for byte in range(256) if byte != 10])
        self.assert_count(b"#" + strange, 0)
        self.assert_count(b"let a = 1;#" + strange + b"\nlet b = 2;#" + strange, 2)
        self.assert_count(b"let#" + strange + b"\na = 1;", 1)

    def test_remark_ends_at_the_line_end(self):
        self.assert_count("# one\nlet a = 1;# two\nlet b = 2;", 2)
        self.assert_count("# let a = 1; let b = 2;", 0)

    def test_tokens_without_blanks(self):
        self.assert_count("let a=-1+2*(b-3)/x(P);point P=shift((1,2),a,b);", 2)
        self.assert_fault_at("let a=2@b;", 2)
        self.assert_count("let#\na#=;\n=#1;\n1#;\n;", 1)

    def test_words_within_names(self):
        for word in WORDS:
            for name in (word + "1", word + "a", word.upper(), word.capitalize(), "a" + word):
                self.assert_count("let " + name + " = " + name + ";", 1)

    def test_names(self):
        for name in ("a", "A", "z", "Z", "a0", "a9Z", "a" * 16, "Z123456789012345"):
            self.assert_count("let " + name + " = 1;", 1)
            self.assert_count("seam " + " ".join([name] * 3) + "," + " ".join([name] * 3) + ";", 1)

    def test_numbers(self):
        many = "123456789012345678"
        for number in ("0", "00", "7", "20.5", "0.0", many, many + "." + many, "0." + many, "0" * 18 + "." + "0" * 18):
            self.assert_count("let a = " + number + ";", 1)

    def test_how_long_texts_may_be(self):
        draft = "let a = 1;"
        for length in (4095, 4096):
            room = length - len(draft)
            self.assert_count(draft + " " * room, 1)
            self.assert_count("\n" * room + draft, 1)
            self.assert_count(draft + "#" * room, 1)
            self.assert_fault(draft[:-1] + " " * (room + 1), 2, length)
            self.assert_fault(" " * room + draft[:-1] + "$", 1, length - 1)
        for length in (4097, 4098, 4150, 4199, 4200):
            room = length - len(draft)
            self.assert_too_long(draft + " " * room)
            self.assert_too_long(draft[:-1] + " " * (room + 1))
            self.assert_too_long("$" * length)
            self.assert_too_long("#" * length)

    def test_long_sums(self):
        for sign in "+-*/":
            text = "let a=" + sign.join(["1"] * 2045)
            self.assertEqual(len(text + ";"), 4096)
            self.assert_count(text + ";", 1)
            self.assert_fault(text, 2, 4095)

    def test_most_statements(self):
        self.assert_count("let a = 1;" * 127, 127)
        self.assert_count("let a = 1;" * 128, 128)
        self.assert_count("let a = 1;" * 128 + " # the end", 128)

    def test_the_129th_statement(self):
        for token in ["let", "a", "1", ";", "(", "grain"]:
            self.assert_fault_at("let a = 1;" * 128 + " @" + token, 2)
        self.assert_fault_at("let a = 1;" * 128 + "#\n @let b = 1;", 2)
        self.assert_fault_at("let a = 1;" * 128 + " @$", 1)

    def test_corners(self):
        for count in (3, 4, 15, 16):
            corners = ", ".join(["c" + str(index) for index in range(count)])
            self.assert_count("piece p (" + corners + ") grain a b;", 1)

    def test_too_few_corners(self):
        self.assert_fault_at("piece p (@) grain a b;", 2)
        self.assert_fault_at("piece p (a@) grain a b;", 2)
        self.assert_fault_at("piece p (a, b@) grain a b;", 2)
        self.assert_fault_at("piece p (a, b,@) grain a b;", 2)

    def test_too_many_corners(self):
        sixteen = ", ".join(["c"] * 16)
        self.assert_fault_at("piece p (" + sixteen + "@, c) grain a b;", 2)
        self.assert_fault_at("piece p (" + sixteen + " @,", 2)
        self.assert_fault_at("piece p (" + sixteen + "@", 2)

    def test_read_is_a_call_of_one_list(self):
        self.assertEqual(read([]), [0, 0, 0])
        self.assertEqual(read([0]), [-2, 0, 2, 1, 0])
        self.assertEqual(read([32] * 4097), [-1, 0, 0])
