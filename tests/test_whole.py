"""Over the whole program: what is printed means the same, what is drafted may be, places lie where they must."""

import re
from fractions import Fraction

from seamdrafts.drafts import cut, draft, ones, print_of, read, value
from seamdrafts.grammar import read_draft
from tests.asking import TABLE, WHOLE_DRAFT, WORKED_DRAFT, PatternCase, WorkCase, byte_list, point_numbers

GIVEN = """\
let a=1.50;let b=-2/3;
point O=(0,0);point P=(003,4.0);point Q=(-1/2,a);point R=(5,0);
"""

# What the names mean for Python, which reads sums as the document tells.
MEANINGS = {"a": Fraction(3, 2), "b": Fraction(-2, 3), "min": min, "max": max, "n": Fraction, "waist": Fraction(171, 2)}

FACTORS = [
    "7", "00.250", "b", "-a", "--b", "(a-b)", "((a*b))", "-(a+1)", "min(a,b*2)", "max(a-(1-b),-b)", "(waist/3)",
]

PLACES = [
    "P", "(1,2.50)", "(-a,b*(2-a))", "between(P,Q,1/3)", "meet(P,Q,O,R)", "foot(Q,O,P)", "mirror(Q,O,P)",
    "turn(Q,O,P,R)", "shift(P,a,-(b))",
]

# Places with one place in them left open.
PLACES_OF_ONE = [
    "between({},Q,2)", "between(Q,{},1/2)", "meet({},(7,9),O,R)", "meet(O,R,(7,9),{})", "foot({},O,P)",
    "foot(P,{},(9,9))", "mirror({},O,P)", "mirror(P,(9,9),{})", "turn({},O,P,R)", "turn(P,{},Q,Q)",
    "shift({},-a,b)", "(x({})-1,y({})/2)",
]

STATEMENTS = [
    "let q=1;", "point q=O;", "piece q(O,R,P)grain O R;", "piece q(P,O,R)grain P O;piece r(O,R,P)grain Q R;"
    "seam q O R,r O R;seam q P O,r P O;",
    "piece q(" + ",".join("c" + str(index) for index in range(16)) + ")grain c0 c9;", "seam q O R,q R O;",
]

# Drafts that can be worked over any measures above 0.
DRAFTS = [
    # A bodice's half and its facing.
    "let w = bust / 4 + 0.5; point A = (0, 0); point B = (w, 0); point C = (w, back);"
    "point D = between(C, (0, back), 1 / 3); point E = mirror(B, A, C);"
    "piece bodice (A, B, C, D) grain B C; piece facing (A, C, E) grain A E; seam bodice B C, facing C E;",
    # A sleeve with its cap, and its halves sewn into a tube.
    "point A = (0, 0); point B = (bust / 3, 0); point C = (x(B) * 4 / 5, back); point D = (x(B) / 5, back);"
    "point T = shift(between(D, C, 1 / 2), 0, bust / 10); piece sleeve (A, B, C, T, D) grain A D;"
    "seam sleeve B C, sleeve D A; seam sleeve C T, sleeve T D;",
    # A skirt's panels, each turned from the one before.
    "point O = (0, 0); point A = (bust, 0); point B = turn(A, O, (5, 0), (4, 3)); point C = turn(B, O, (5, 0), (4, 3));"
    "point D = turn(C, O, (5, 0), (4, 3)); piece one (O, A, B) grain O A; piece two (O, B, C) grain O B;"
    "piece three (O, C, D) grain O C; seam one B O, two O B; seam two C O, three O C; seam three D O, one O A;",
    # A dart's two legs, folded on one another, with a gusset.
    "point A = (0, 0); point B = (bust, 0); point T = (bust / 2, back); point L = foot(T, A, B);"
    "point M = shift(L, - bust / 9, 0); point N = shift(L, bust / 9, 0); point H = between(L, T, 1 / 2);"
    "piece front (A, M, H, N, B, T) grain L T; piece gusset (M, N, H) grain L H;"
    "seam front M H, front H N; seam front B T, front T A;",
    # As many pieces as there may be, each sewn to the next.
    "point A = (0, 0); point B = (bust, 0); point C = (bust, back); point D = meet(A, (0, 1), C, shift(C, 1, 0));"
    + "".join("piece p{} (A, B, C, D) grain A D;".format(index) for index in range(8))
    + "".join("seam p{} B C, p{} D A;".format(index, (index + 1) % 8) for index in range(8)),
]

TABLES = [
    "bust {}\nback {}\n".format(bust, back)
    for bust in (1, 86, "171/2", "1/97", 1003) for back in (1, 42, "7/3", "1007/9")
]


class PrintedTest(WorkCase):
    """A draft's printed form is read as the same draft, and printed again it's the same text."""

    def printed(self, text):
        answer = self.ask(print_of, text)
        self.assertEqual(answer[0], len(answer) - 3)
        return bytes(answer[2:-1]).decode("ascii")

    def assert_same_draft(self, text, *names):
        """The printed form means what the text means; gives what value answers of the first name."""
        once = self.printed(text)
        self.assertLessEqual(len(once), 4096)
        self.assertEqual(self.printed(once), once)
        self.assertEqual(read_draft(byte_list(once)), read_draft(byte_list(text)))
        self.assertEqual(self.ask(read, once), self.ask(read, text))
        self.assertEqual(draft(byte_list(once), byte_list(TABLE)), draft(byte_list(text), byte_list(TABLE)))
        found = []
        for name in names:
            asked = (byte_list(TABLE), byte_list(name))
            found.append(value(byte_list(once), *asked))
            self.assertEqual(value(byte_list(text), *asked), found[-1], text)
        return found[0] if found else None

    def assert_same_sum(self, text):
        """Besides, the sum means the number that it means for Python."""
        written = re.sub(r"[0-9][0-9.]*", lambda match: "n('" + match.group() + "')", text)
        wanted = eval(written, {"__builtins__": {}}, MEANINGS)
        answer = self.assert_same_draft(GIVEN + "let q=" + text + ";", "q")
        self.assertEqual(answer, [1, 0, 2, wanted.numerator, wanted.denominator], text)

    def test_sums_of_one_and_two_factors(self):
        for first in FACTORS:
            self.assert_same_sum(first)
            for second in FACTORS:
                for sign in "+-*/":
                    self.assert_same_sum(first + sign + second)

    def test_sums_of_three_factors(self):
        rows = [(FACTORS[index], FACTORS[(3 * index + 1) % 11], FACTORS[(7 * index + 4) % 11]) for index in range(11)]
        for index, (first, second, third) in enumerate(rows):
            for one in "+-*/":
                for other in "+-*/":
                    if index % 2 == 0:
                        self.assert_same_sum(first + one + second + other + third)
                    else:
                        self.assert_same_sum(first + one + "(" + second + other + third + ")")

    def test_places(self):
        for place in PLACES:
            answer = self.assert_same_draft(GIVEN + "point q=" + place + ";", "q")
            self.assertEqual(answer[:3], [2, 0, 4], place)
            for around in PLACES_OF_ONE:
                self.assert_same_draft(GIVEN + "point q=" + around.format(place, place) + ";let r=x(q)-y(q);", "q", "r")

    def test_places_within_places(self):
        for around in PLACES_OF_ONE:
            for within in PLACES_OF_ONE:
                place = around.format(*[within.format("Q", "Q")] * 2)
                self.assert_same_draft(GIVEN + "point q=" + place + ";", "q")

    def test_statements(self):
        for first in STATEMENTS:
            self.assert_same_draft(GIVEN + first, "q", "a", "R", "zz")
            for second in STATEMENTS:
                self.assert_same_draft(first + GIVEN + second, "q", "a")
        for text in ("", WHOLE_DRAFT, WORKED_DRAFT, WORKED_DRAFT + "seam front O A, back O A;"):
            self.assert_same_draft(text, "a", "b", "P", "front")

    def test_drafts_over_tables(self):
        for text in DRAFTS:
            once = self.printed(text.replace(" ", "\n").replace("point\n", "point # a point\n"))
            self.assertEqual(self.printed(once), once)
            for table in TABLES:
                self.assertEqual(self.ask(draft, once, table), self.ask(draft, text, table))


class DraftedTest(PatternCase):
    """What is drafted is a pattern that may be, and the calls of patterns tell of it what the draft tells."""

    def drafted(self, text, table):
        answer = self.ask(draft, text, table)
        self.assertGreater(answer[0], 0, (text, table))
        return bytes(answer[2:-1]).decode("ascii")

    def pieces_of(self, text):
        """Each piece's name and corners, in order, as a pattern's text tells them."""
        found = []
        for line in text.splitlines():
            words = line.split()
            if words[0] == "piece":
                found.append((words[1], []))
            elif len(words) == 2:
                found[-1][1].append((Fraction(words[0]), Fraction(words[1])))
        return found

    def seams_of(self, text):
        """Each seam's four numbers, as a pattern's text tells them."""
        return [[int(word) for word in line.split()[1:]] for line in text.splitlines() if line.startswith("seam")]

    def test_judged_without_a_fault(self):
        for text in DRAFTS:
            for table in TABLES:
                pattern = self.drafted(text, table)
                pieces = self.pieces_of(pattern)
                seams = self.seams_of(pattern)
                self.assertEqual([len(pieces), len(seams)], [text.count("piece"), text.count("seam")])
                hems = sum(len(corners) for name, corners in pieces) - 2 * len(seams)
                self.assert_judged(pattern, len(pieces), len(seams), hems)

    def test_pieces(self):
        for text in DRAFTS:
            for table in TABLES[::3]:
                pattern = self.drafted(text, table)
                for k, (name, corners) in enumerate(self.pieces_of(pattern)):
                    around = zip(corners, corners[1:] + corners[:1])
                    area = sum(a[0] * b[1] - a[1] * b[0] for a, b in around)
                    self.assertGreater(area, 0)
                    self.assert_piece(k, pattern, len(corners), name, area)

    def test_corners_are_on_the_rim(self):
        for text in DRAFTS:
            pattern = self.drafted(text, TABLES[5])
            for k, (name, corners) in enumerate(self.pieces_of(pattern)):
                for index, (x, y) in enumerate(corners):
                    self.assert_where(1, k, x, y, pattern)
                    after = corners[(index + 1) % len(corners)]
                    self.assert_where(1, k, (x + after[0]) / 2, (y + after[1]) / 2, pattern)

    def test_a_cut_has_its_middle_inside(self):
        for text in DRAFTS:
            pattern = self.drafted(text, TABLES[5])
            for k, (name, corners) in enumerate(self.pieces_of(pattern)):
                for i, one in enumerate(corners):
                    for j, other in enumerate(corners):
                        answer = self.ask(cut, k, i, j, pattern)
                        self.assertEqual(self.ask(cut, k, j, i, pattern), answer)
                        if answer != [0, 0, 0]:
                            self.assertEqual(answer, [1, 0, 0])
                            self.assert_where(2, k, (one[0] + other[0]) / 2, (one[1] + other[1]) / 2, pattern)

    def ones_of(self, k, point, pattern):
        """The places that are one with this: the piece and the point of each."""
        answer = self.ask(ones, k, *point_numbers(*point), pattern)
        rows = [line.split() for line in bytes(answer[2:-1]).decode("ascii").splitlines()]
        return [(int(row[0]), (Fraction(row[1]), Fraction(row[2]))) for row in rows]

    def test_sewn_edges_are_one_the_other_way_round(self):
        for text in DRAFTS:
            pattern = self.drafted(text, TABLES[9])
            pieces = [corners for name, corners in self.pieces_of(pattern)]
            for first, edge, second, other in self.seams_of(pattern):
                a, b = (pieces[first] * 2)[edge:edge + 2]
                c, d = (pieces[second] * 2)[other:other + 2]
                for part in (Fraction(0), Fraction(1, 3), Fraction(5, 7), Fraction(1)):
                    one = (first, (a[0] + part * (b[0] - a[0]), a[1] + part * (b[1] - a[1])))
                    partner = (second, (d[0] + part * (c[0] - d[0]), d[1] + part * (c[1] - d[1])))
                    found = self.ones_of(*one, pattern)
                    self.assertIn(one, found)
                    self.assertIn(partner, found)
                    self.assertEqual(found, sorted(found))
                    for place in found:
                        self.assertEqual(self.ones_of(*place, pattern), found)

    def test_one_pattern_over_one_table(self):
        for text in DRAFTS:
            found = {self.drafted(text, table) for table in TABLES}
            self.assertGreaterEqual(len(found), 5)
            for table in TABLES:
                rows = table.splitlines(True)
                self.assertEqual(self.drafted(text, rows[1] + rows[0]), self.drafted(text, table))


class MeaningTest(WorkCase):
    """turn and mirror keep lengths; feet and meeting points lie on their lines."""

    POINTS = "(0, 0) (3, 4) (5, 0) (- 1 / 2, 7 / 3) (1 / 9, - 2) (- 6, - 5 / 4)".replace(") (", ")|(").split("|")

    def points_of(self, statements, *names):
        """The points that the names mean behind these statements."""
        found = []
        for name in names:
            answer = self.ask(value, statements, "", name)
            self.assertEqual(answer[:3], [2, 0, 4], (statements, name))
            found.append((Fraction(answer[3], answer[4]), Fraction(answer[5], answer[6])))
        return found

    def assert_level(self, way, other):
        self.assertEqual(way[0] * other[1], way[1] * other[0])

    def way(self, a, b):
        return (b[0] - a[0], b[1] - a[1])

    def length(self, a, b):
        way = self.way(a, b)
        return way[0] * way[0] + way[1] * way[1]

    def rows(self):
        """Four points that differ, in many orders."""
        for first in range(6):
            for step in (1, 5):
                row = [self.POINTS[(first + step * index) % 6] for index in range(4)]
                yield "".join("point {} = {};".format(name, point) for name, point in zip("PQRS", row))

    def test_mirror(self):
        for row in self.rows():
            text = row + "point M = mirror(P, Q, R); point N = mirror(S, Q, R); point B = mirror(M, Q, R);"
            p, q, r, s, m, n, b = self.points_of(text, *"PQRSMNB")
            self.assertEqual(b, p)
            self.assertEqual(self.length(m, n), self.length(p, s))
            for c in (q, r):
                self.assertEqual(self.length(c, m), self.length(c, p))

    def test_turn(self):
        for row in self.rows():
            text = row + "point T = turn(P, Q, shift(Q, 5, 0), shift(Q, 3, 4));"
            text += "point U = turn(S, Q, shift(Q, 5, 0), shift(Q, 3, 4)); point B = turn(T, Q, U, S);"
            p, q, s, t, u, b = self.points_of(text, *"PQSTUB")
            self.assertEqual(b, p)
            self.assertEqual(self.length(t, u), self.length(p, s))
            self.assertEqual(self.length(q, t), self.length(q, p))
            arm, turned = self.way(q, p), self.way(q, t)
            self.assertEqual(turned, ((3 * arm[0] - 4 * arm[1]) / 5, (4 * arm[0] + 3 * arm[1]) / 5))

    def test_foot(self):
        for row in self.rows():
            p, q, r, f, m = self.points_of(row + "point F = foot(P, Q, R); point M = mirror(P, Q, R);", *"PQRFM")
            self.assert_level(self.way(q, f), self.way(q, r))
            self.assertEqual(self.length(p, f) + self.length(f, q), self.length(p, q))
            self.assertEqual(((p[0] + m[0]) / 2, (p[1] + m[1]) / 2), f)

    def test_meet(self):
        for row in self.rows():
            p, q, r, s, m = self.points_of(row + "point M = meet(P, Q, R, S);", *"PQRSM")
            self.assert_level(self.way(p, m), self.way(p, q))
            self.assert_level(self.way(r, m), self.way(r, s))
