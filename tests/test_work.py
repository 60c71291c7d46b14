"""Promises 3 and 4: the fault of a draft over a table, kind by kind and in its order."""

from seamdrafts.drafts import draft, value
from tests.asking import TABLE, WORKED_DRAFT, WorkCase

# Points apart from the pieces: two that are one, and two whose way is too fine.
MORE = """\
point O2 = O;
point F = (f, 0);
point G = (g, 0);
point V = (1, f);
point W = (2, g);
"""


class FaultOfDraftTest(WorkCase):
    def assert_faults(self, kind, *statements):
        for statement in statements:
            self.assert_next_fault(statement, kind)

    def test_what_can_be_worked(self):
        for statement in (
            "", "let b = a;", "point P = A;", "piece p (O, A, B) grain A C;", "piece p (A, B, O) grain B A;",
            "seam front O A, back O A;", "seam front O A, front B C;",
        ):
            self.assert_next_worked(statement)

    def test_the_first_statement_is_told(self):
        self.assert_not_worked("let a = b;", 0, 2)
        self.assert_not_worked("let a = 1; let b = 2; let c = 1 / 0; let a = 3;", 2, 4)
        self.assert_not_worked("let a = 1; let a = 1 / 0; let c = b;", 1, 1)
        self.assert_not_worked("let a = 1; " * 2 + "let a = 2; " * 126, 1, 1)
        many = "".join("let a" + str(index) + " = 1; " for index in range(127))
        self.assert_not_worked(many + "let a = b;", 127, 2)

    def test_blanks_and_remarks_are_no_statements(self):
        self.assert_not_worked("# one;\n\n let a = 1; # let b = 2;\n let b = c;", 1, 2)

    def test_kind_1(self):
        for name in ("a", "O", "front", "f", "waist"):
            self.assert_faults(
                1, "let " + name + " = 5;", "point " + name + " = O;", "piece " + name + " (O, A, B) grain O A;",
            )

    def test_kind_1_goes_before_what_stands_behind_the_name(self):
        for name in ("a", "O", "front", "f"):
            self.assert_faults(
                1, "let " + name + " = zz;", "let " + name + " = O;", "let " + name + " = 1 / 0;",
                "let " + name + " = f + 1;", "let " + name + " = " + name + ";", "point " + name + " = zz;",
                "point " + name + " = a;", "point " + name + " = meet(O, O, O, O);",
                "point " + name + " = (f + 1, 0);", "piece " + name + " (zz, A, B) grain O A;",
                "piece " + name + " (a, A, B) grain O A;", "piece " + name + " (B, A, O) grain O A;",
                "piece " + name + " (O, A, B) grain O O;", "piece " + name + " (O, A, B) grain zz a;",
                "piece " + name + " (O, O, O) grain O O;",
            )

    def test_a_name_means_nothing_before_its_statement(self):
        self.assert_faults(
            2, "let b = b;", "point P = P;", "point P = shift(P, 1, 2);", "piece p (p, A, B) grain O A;",
            "piece p (O, A, B) grain O p;", "let b = c; let c = 1;",
            "seam p O A, back O A; piece p (O, A, B) grain O A;",
        )

    def test_kinds_2_and_3_where_a_number_is_wanted(self):
        for statement in (
            "let b = @;", "let b = - @;", "let b = 1 + @;", "let b = 2 / @ / 3;", "let b = (@);",
            "let b = min(@, 1);", "let b = max(1, @);", "point P = (@, 1);", "point P = (1, @);",
            "point P = between(O, A, @);", "point P = shift(O, @, 2);", "point P = shift(O, 1, @);",
            "let b = x((@, 1));", "let b = y(shift(O, 1, - @));",
        ):
            self.assert_next_worked(statement.replace("@", "a"))
            self.assert_next_fault(statement.replace("@", "zz"), 2)
            for name in ("O", "B", "front", "back"):
                self.assert_next_fault(statement.replace("@", name), 3)

    def test_kinds_2_and_3_where_a_point_is_wanted(self):
        for statement in (
            "point P = @;", "let b = x(@);", "let b = y(@);", "let b = 1 - min(2, x(@));",
            "point P = between(@, O, 1);", "point P = between(O, @, 1);", "point P = meet(@, A, O, B);",
            "point P = meet(O, @, A, C);", "point P = meet(O, A, @, B);", "point P = meet(O, A, B, @);",
            "point P = foot(@, O, A);", "point P = foot(O, @, A);", "point P = foot(O, A, @);",
            "point P = mirror(@, O, A);", "point P = mirror(O, @, A);", "point P = mirror(O, A, @);",
            "point P = turn(@, O, A, A);", "point P = turn(O, @, A, A);", "point P = turn(A, O, @, @);",
            "point P = shift(@, 1, 2);", "point P = shift(shift(@, 1, 2), 3, 4);",
        ):
            self.assert_next_worked(statement.replace("@", "(5, 6)"))
            self.assert_next_fault(statement.replace("@", "zz"), 2)
            for name in ("a", "waist", "front", "back"):
                self.assert_next_fault(statement.replace("@", name), 3)

    def test_the_names_of_other_cases_are_others(self):
        self.assert_faults(2, "let b = A1;", "let b = Waist;", "point P = o;", "seam Front O A, back O A;")

    def test_names_are_come_to_from_the_left(self):
        self.assert_faults(
            2, "let b = zz + O;", "let b = zz * front;", "point P = (zz, O);", "point P = foot(zz, a, O);",
            "let b = min(zz, x(a));", "let b = x(zz) + O;", "point P = between(zz, O, O);",
        )
        self.assert_faults(
            3, "let b = O + zz;", "let b = front * zz;", "point P = (O, zz);", "point P = foot(a, zz, O);",
            "let b = min(x(a), zz);", "let b = O + x(zz);", "point P = between(O, a, zz);",
        )

    def test_what_is_reckoned_comes_behind_its_parts(self):
        self.assert_faults(2, "let b = zz / 0;", "let b = zz + 1 / 0;", "let b = 1 / (0 * zz);")
        self.assert_faults(3, "let b = O / 0;", "let b = O + 1 / 0;", "let b = 1 / (0 * O);")
        self.assert_faults(
            4, "let b = 1 / 0 + zz;", "let b = 1 / 0 / zz;", "let b = 1 / 0 + O;", "let b = 2 * 3 / 0 - O * zz;",
            "let b = min(1 / 0, zz);", "point P = (1 / 0, zz);", "point P = shift(O, 1 / 0, zz);",
        )
        self.assert_faults(
            2, "point P = meet(O, O, O, zz);", "point P = foot(A, zz, O);", "point P = turn(O, O, O, zz);",
            "point P = mirror(zz, O, O);", "point P = between(O, A, zz + 1 / 0);",
            "let b = x(meet(O, O, O, zz)) / 0;",
        )
        self.assert_faults(
            3, "point P = meet(O, O, O, a);", "point P = turn(O, O, O, front);", "point P = mirror(a, O, O);",
            "point P = foot(a, O, O);",
        )
        self.assert_faults(
            5, "point P = foot(meet(O, O, A, B), zz, O);", "point P = shift(meet(O, O, A, B), zz, 1);",
            "point P = between(foot(A, O, O), a, 1 / 0);", "let b = x(meet(O, A, C, B)) / 0;",
            "let b = x(foot(A, O, O)) + zz;", "point P = shift(turn(O, A, B, C), 1 / 0, 1);",
        )
        self.assert_faults(
            4, "point P = shift(O, 1 / 0, x(meet(O, O, A, B)));", "point P = foot((1 / 0, 1), O, O);",
            "let b = 1 / 0 + x(foot(A, O, O));", "point P = between(O, A, 1 / 0);",
        )

    def test_kind_6_comes_behind_all_that_is_reckoned(self):
        self.assert_faults(2, "let b = f * f + zz;", "point P = (f * f, zz);")
        self.assert_faults(3, "let b = f * f + O;", "point P = (f * f, O);")
        self.assert_faults(4, "let b = f * f / 0;", "point P = (f * f, 1 / 0);", "point P = (f + 1, 2 / (f - f));")
        self.assert_faults(5, "point P = foot((f + 1, 0), A, A);", "point P = meet((f + 1, 0), O, (f + 1, 0), O);")
        self.assert_faults(
            6, "let b = f + 1;", "point P = (f + 1, 0);", "point P = (0, f + 1);", "point P = shift(A, f, 1);",
        )


class FaultOfPieceTest(WorkCase):
    """A piece's own name, its corners, its grain's two, then kinds 7, 8 and 6."""

    def assert_fault_of(self, statement, kind):
        self.assert_not_worked(WORKED_DRAFT + MORE + statement, 12, kind)

    def test_corners_are_points(self):
        for count in (0, 1, 2):
            for name, kind in (("zz", 2), ("a", 3), ("front", 3), ("waist", 3)):
                corners = ["O", "A", "B"]
                corners[count] = name
                self.assert_fault_of("piece p (" + ", ".join(corners) + ") grain O A;", kind)
        self.assert_fault_of("piece p (O, A, B, zz) grain O A;", 2)
        self.assert_fault_of("piece p (O, A, B, a) grain O A;", 3)

    def test_corners_from_the_left(self):
        self.assert_fault_of("piece p (zz, a, B) grain O A;", 2)
        self.assert_fault_of("piece p (a, zz, B) grain O A;", 3)
        self.assert_fault_of("piece p (O, A, zz, a) grain O A;", 2)
        self.assert_fault_of("piece p (O, A, front, zz) grain O A;", 3)

    def test_grain_is_of_points(self):
        for name, kind in (("zz", 2), ("a", 3), ("front", 3), ("p", 2)):
            self.assert_fault_of("piece p (O, A, B) grain " + name + " A;", kind)
            self.assert_fault_of("piece p (O, A, B) grain O " + name + ";", kind)
        self.assert_fault_of("piece p (O, A, B) grain zz a;", 2)
        self.assert_fault_of("piece p (O, A, B) grain a zz;", 3)

    def test_corners_go_before_the_grain(self):
        self.assert_fault_of("piece p (O, A, zz) grain a a;", 2)
        self.assert_fault_of("piece p (O, A, a) grain zz zz;", 3)

    def test_names_go_before_kind_7(self):
        for corners in ("B, A, O", "O, A, A", "O, A, O2", "O, B, A, C"):
            self.assert_fault_of("piece p (" + corners + ", zz) grain O A;", 2)
            self.assert_fault_of("piece p (" + corners + ", a) grain O A;", 3)
            self.assert_fault_of("piece p (" + corners + ") grain zz A;", 2)
            self.assert_fault_of("piece p (" + corners + ") grain O a;", 3)
            self.assert_fault_of("piece p (" + corners + ") grain O A;", 7)

    def test_kind_7_goes_before_8_and_6(self):
        for grain in ("O O", "O O2", "F G", "G F"):
            self.assert_fault_of("piece p (B, A, O) grain " + grain + ";", 7)
            self.assert_fault_of("piece p (O, A, A) grain " + grain + ";", 7)

    def test_the_grains_points_are_one(self):
        for grain in ("O O", "O O2", "O2 O", "A A", "F F"):
            self.assert_fault_of("piece p (O, A, B) grain " + grain + ";", 8)

    def test_grain_too_fine(self):
        for grain in ("F G", "G F", "V W", "W V"):
            self.assert_fault_of("piece p (O, A, B) grain " + grain + ";", 6)

    def test_the_finest_grain(self):
        text = "point O = (0, 0); point A = (1, 0); point B = (0, 1); point F = (f, g); point H = (h, - h);"
        for grain, told in (
            ("O F", "4611686018427387904 -4611686018427387904"), ("F O", "-4611686018427387904 4611686018427387904"),
            ("O H", "1/4611686018427387904 -1/4611686018427387904"),
            ("H O", "-1/4611686018427387904 1/4611686018427387904"),
        ):
            self.assert_pattern(
                text + "piece p (O, A, B) grain " + grain + ";", "piece p " + told + "\n0 0\n1 0\n0 1\nend\n",
            )

    def test_finer_grains(self):
        text = "point O = (0, 0); point A = (1, 0); point B = (0, 1);"
        for first, second, fine in (
            ("(f, 0)", "(0, 0)", True), ("(f, 0)", "(- 1, 0)", False), ("(- 1, 0)", "(f, 0)", False),
            ("(0, f)", "(0, 0)", True), ("(0, f)", "(0, - 1)", False), ("(0, - 1)", "(0, f)", False),
            ("(h, 0)", "(0, 0)", True), ("(h, 0)", "(1 / 3, 0)", False), ("(1 / (f - 1), 0)", "(h, 0)", False),
            ("(0, h)", "(0, 1 / 3)", False), ("(0, 1 / (f - 1))", "(0, h)", False), ("(0, h)", "(0, - h)", True),
            ("(h, 0)", "(1 / f, 1)", True), ("(0, h)", "(f, 1 / f)", True), ("(1, h)", "(0, h)", True),
        ):
            statements = text + "point M = " + first + "; point N = " + second + "; piece p (O, A, B) grain M N;"
            if fine:
                self.assertGreater(self.ask(draft, statements, TABLE)[0], 0, statements)
            else:
                self.assert_not_worked(statements, 5, 6)

    def test_how_many_pieces(self):
        text = WORKED_DRAFT + MORE + "".join("piece p" + str(index) + " (O, A, B) grain O A; " for index in range(3, 9))
        self.assertGreater(self.ask(draft, text, TABLE)[0], 0)
        self.assert_number(text, "a", 2)
        for statement, kind in (
            ("piece p9 (O, A, B) grain O A;", 8), ("piece p9 (O, A, B) grain O O;", 8),
            ("piece p9 (O, A, B) grain F G;", 8), ("piece p9 (B, A, O) grain O A;", 7),
            ("piece p9 (O, A, A) grain O A;", 7), ("piece p9 (O, A, B) grain O zz;", 2),
            ("piece p9 (O, A, B) grain a O;", 3), ("piece p9 (O, A, a) grain O A;", 3),
            ("piece p8 (O, A, B) grain O A;", 1), ("piece p9 (p9, A, B) grain O A;", 2),
            ("piece p8 (zz, A, B) grain O A;", 1),
        ):
            self.assert_not_worked(text + statement, 18, kind)
        self.assertGreater(self.ask(draft, text + "let b = 3; seam front O A, back O A;", TABLE)[0], 0)


class FaultOfSeamTest(WorkCase):
    """Of a seam A, P, Q, then kind 9; B, R, S, then kind 9; then 10 and 11."""

    def assert_seam(self, seam, kind):
        self.assert_next_fault("seam " + seam + ";", kind)

    def test_names_are_there_and_of_their_sort(self):
        for index in range(6):
            names = "front O A back O A".split()
            others = ["a", "waist"] + (["O", "A"] if index in (0, 3) else ["front", "back"])
            for name, kind in [("zz", 2)] + [(other, 3) for other in others]:
                names[index] = name
                self.assert_seam(" ".join(names[:3]) + ", " + " ".join(names[3:]), kind)

    def test_names_are_come_to_from_the_left(self):
        for index in range(5):
            for other in range(index + 1, 6):
                names = "front O A back O A".split()
                names[index], names[other] = "zz", "a"
                self.assert_seam(" ".join(names[:3]) + ", " + " ".join(names[3:]), 2)
                names[index], names[other] = "a", "zz"
                self.assert_seam(" ".join(names[:3]) + ", " + " ".join(names[3:]), 3)

    def test_no_such_edge(self):
        for edge in (
            "front A O", "front O B", "front B O", "front O C", "front O O", "front B A", "back O B", "back B A",
            "back A O", "back O C", "back C O", "back C C", "back B C", "back C A",
        ):
            self.assert_seam(edge + ", back A B", 9)
            self.assert_seam("back A B, " + edge, 9)
            self.assert_seam(edge + ", " + edge, 9)

    def test_edges_are_known_by_their_corners_names(self):
        self.assert_not_worked(WORKED_DRAFT + "point P = A; seam front O P, back O A;", 8, 9)
        self.assert_not_worked(WORKED_DRAFT + "point P = O; seam front O A, back P A;", 8, 9)

    def test_an_edge_goes_from_the_last_corner_to_the_first(self):
        self.assert_next_worked("seam front C O, front A B;")
        self.assert_seam("front O C, front A B", 9)
        self.assert_next_worked("piece p (A, B, O) grain O A; seam back B O, p B O; seam back O A, p O A;")

    def test_the_first_edge_goes_before_the_seconds_names(self):
        for edge in ("front O B", "back B A"):
            self.assert_seam(edge + ", zz O A", 9)
            self.assert_seam(edge + ", a O A", 9)
            self.assert_seam(edge + ", back zz A", 9)
            self.assert_seam(edge + ", back O a", 9)
            self.assert_seam("front zz B, " + edge, 2)
            self.assert_seam("front O a, " + edge, 3)
            self.assert_seam("front O A, back O zz", 2)

    def test_sewn_with_itself(self):
        self.assert_seam("front O A, front O A", 10)
        self.assert_seam("back B O, back B O", 10)

    def test_sewn_already(self):
        for first, second in (
            ("front O A", "back O A"), ("back O A", "front O A"), ("front O A", "front B C"),
            ("front B C", "front O A"),
        ):
            text = WORKED_DRAFT + "seam " + first + ", " + second + "; "
            self.assertGreater(self.ask(draft, text, TABLE)[0], 0)
            for seam in (
                first + ", " + second, second + ", " + first, first + ", " + first,
                second + ", back A B", "back A B, " + second,
                first + ", front A B", "front A B, " + first, first + ", back B O", "back B O, " + second,
            ):
                self.assert_not_worked(text + "seam " + seam + ";", 8, 10)

    def test_names_and_edges_go_before_sewn_already(self):
        text = WORKED_DRAFT + "seam front O A, back O A; "
        for seam, kind in (
            ("front O A, back O zz", 2), ("front O A, back O a", 3), ("front O A, zz O A", 2),
            ("front O A, back A O", 9), ("front A O, back O A", 9), ("front zz A, back O A", 2),
            ("front O A, back C B", 9),
        ):
            self.assert_not_worked(text + "seam " + seam + ";", 8, kind)

    def test_two_lengths(self):
        for seam in (
            "front O A, front A B", "front A B, front B C", "back O A, back A B", "back B O, front O A",
            "front C O, back B O",
        ):
            self.assert_seam(seam, 11)

    def test_edges_may_be_of_one_piece(self):
        self.assert_next_worked("seam front O A, front B C;")

    def test_a_piece_may_be_sewn_all_round(self):
        text = WORKED_DRAFT + "seam front O A, front B C; seam front A B, front C O;"
        self.assertGreater(self.ask(draft, text, TABLE)[0], 0)
        self.assert_not_worked(text + "seam back O A, front O A;", 9, 10)

    def test_lengths_are_told_exactly(self):
        text = """
            point O = (0, 0); point A = (4, 0); point B = (4, 4); point C = (1 / 3, 0); point D = (1 / 5, 4 / 15);
            point E = (0, 1 / 3); point F = (f, 0); point G = (f - 1, 1); point I = (0, 4.000000000000000001);
            point J = (2.4, 3.2); point K = (0, 1);
            piece p (O, A, B) grain O A; piece q (O, C, E) grain O A; piece r (O, D, K) grain O A;
            piece s (O, F, G) grain O A; piece t (A, B, I) grain O A; piece u (O, J, I) grain O A;
            piece v (O, F, K) grain O A;
        """
        for seam in ("p O A, u O J", "q O C, r O D", "q E O, r O D", "s O F, v O F", "u O J, t A B", "p A B, u O J"):
            self.assertGreater(self.ask(draft, text + "seam " + seam + ";", TABLE)[0], 0, seam)
        for seam in ("p O A, u I O", "u I O, t A B", "s G O, v O F", "q C E, q O C", "s O F, s G O", "r D K, q O C"):
            self.assert_not_worked(text + "seam " + seam + ";", 18, 11)


class WithoutPieceTest(WorkCase):
    def test_kind_12_is_behind_the_last_statement(self):
        for text, count in (("", 0), ("# a remark", 0), ("let a = 1;", 1), ("let a = 1; point P = (a, a);", 2)):
            self.assertEqual(self.ask(draft, text, ""), [-5, 0, 2, count, 12])
        most = "".join("let a" + str(index) + " = 1; " for index in range(128))
        self.assertEqual(self.ask(draft, most, ""), [-5, 0, 2, 128, 12])

    def test_it_is_none_for_value(self):
        self.assertEqual(self.ask(value, "", "", "a"), [0, 0, 0])
        self.assert_number("let a = 1;", "a", 1)

    def test_other_faults_go_before(self):
        self.assert_not_worked("let a = 1; let b = c;", 1, 2)
        self.assert_not_worked("piece p (O, A, B) grain O A;", 0, 2)
        self.assert_not_worked("seam p O A, p O A;", 0, 2)
