"""Promises 1 and 2: of a text that is no draft the first fault is told, by both calls."""

from tests.asking import WHOLE_DRAFT, WORDS, DraftCase

SIGNS = list("(),=+-*/;")


def deep_rules(depth):
    """The grammar's rows for sums and places that stand this deep."""
    here, below = "@" + str(depth), "@" + str(depth + 1)
    sums, places = " sum" + below + " ", " place" + below + " "
    factors = ["NUMBER", "NAME", "- factor" + below, "(" + sums + ")"]
    factors += [word + " (" + places + ")" for word in ("x", "y")]
    factors += [word + " (" + sums + "," + sums + ")" for word in ("min", "max")]
    pairs = ["NAME", "(" + sums + "," + sums + ")"]
    pairs.append("between (" + places + "," + places + "," + sums + ")")
    pairs.append("shift (" + places + "," + sums + "," + sums + ")")
    pairs += [word + " (" + ",".join([places] * 3) + ")" for word in ("foot", "mirror")]
    pairs += [word + " (" + ",".join([places] * 4) + ")" for word in ("meet", "turn")]
    return {
        "sum" + here: ["product" + here + " terms" + here],
        "terms" + here: [""] + [sign + " product" + here + " terms" + here for sign in "+-"],
        "product" + here: ["factor" + here + " factors" + here],
        "factors" + here: [""] + [sign + " factor" + here + " factors" + here for sign in "*/"],
        "factor" + here: factors,
        "place" + here: pairs,
    }


def grammar():
    """The document's grammar, row by row; what would stand 7 deep is left out."""
    rules = {
        "draft0": [""],
        "corners0": [""],
        "statement": [
            "let NAME = sum@1 ;",
            "point NAME = place@1 ;",
            "piece NAME ( NAME , NAME , NAME corners13 ) grain NAME NAME ;",
            "seam NAME NAME NAME , NAME NAME NAME ;",
        ],
    }
    for count in range(1, 129):
        rules["draft" + str(count)] = ["", "statement draft" + str(count - 1)]
    for count in range(1, 14):
        rules["corners" + str(count)] = ["", ", NAME corners" + str(count - 1)]
    for depth in range(1, 7):
        rules.update(deep_rules(depth))
    return {
        left: [row.split() for row in rows if not any(symbol.endswith("@7") for symbol in row.split())]
        for left, rows in rules.items()
    }


RULES = grammar()


def terminal(token):
    if token in WORDS or token in SIGNS:
        return token
    return "NUMBER" if token[0].isdigit() else "NAME"


def expanded(stacks):
    """The stacks, tuples of what is still to come, with a token first in each, or empty."""
    ready, waiting = set(), list(stacks)
    while waiting:
        stack = waiting.pop()
        if not stack or stack[0] not in RULES:
            ready.add(stack)
        else:
            waiting += [tuple(row) + stack[1:] for row in RULES[stack[0]]]
    return ready


def stacks_behind(tokens):
    """The stacks behind these tokens, and how many tokens it took until none was left, or all."""
    stacks = expanded([("draft128",)])
    for index, token in enumerate(tokens):
        stacks = expanded([stack[1:] for stack in stacks if stack and stack[0] == terminal(token)])
        if not stacks:
            return stacks, index
    return stacks, len(tokens)


def first_wrong(tokens):
    """The first token with which the tokens up to it begin no draft; how many where they end too soon; or None."""
    stacks, index = stacks_behind(tokens)
    return None if () in stacks else index


def completion(tokens):
    """Tokens that make a draft of these: of what is still to come the first row each time."""
    coming, more = list(sorted(stacks_behind(tokens)[0])[0]), []
    while coming:
        symbol = coming.pop(0)
        if symbol in RULES:
            coming = RULES[symbol][0] + coming
        else:
            more.append({"NAME": "q", "NUMBER": "7"}.get(symbol, symbol))
    return more


def joined(tokens):
    """The tokens with a blank between, and the place of each and of the end."""
    places, text = [], ""
    for token in tokens:
        text += " " if text else ""
        places.append(len(text))
        text += token
    return text, places + [len(text)]


def split(text):
    for sign in SIGNS:
        text = text.replace(sign, " " + sign + " ")
    return text.split()


class GrammarTest(DraftCase):
    def check(self, tokens):
        text, places = joined(tokens)
        wrong = first_wrong(tokens)
        if wrong is None:
            self.assert_count(text, tokens.count(";"))
        else:
            self.assert_fault(text, 2, places[wrong])

    def test_ends_too_soon(self):
        tokens = split(WHOLE_DRAFT)
        for count in range(len(tokens) + 1):
            self.check(tokens[:count])

    def test_other_token_in_each_place(self):
        for line in WHOLE_DRAFT.splitlines():
            tokens = split(line)
            for index in range(len(tokens)):
                for other in WORDS + SIGNS + ["q", "7"]:
                    self.check(tokens[:index] + [other] + tokens[index + 1:])

    def test_a_token_more_or_less(self):
        for line in WHOLE_DRAFT.splitlines():
            tokens = split(line)
            for index in range(len(tokens)):
                self.check(tokens[:index] + tokens[index + 1:])
                for other in ["let", "x", "foot", "q", "7"] + SIGNS:
                    self.check(tokens[:index] + [other] + tokens[index:])

    def test_the_tokens_before_a_fault_can_be_completed(self):
        tokens = split(WHOLE_DRAFT)
        for count in range(len(tokens) + 1):
            whole = tokens[:count] + completion(tokens[:count])
            self.assert_count(" ".join(whole), whole.count(";"))


class FaultTest(DraftCase):
    def test_strange_bytes(self):
        known = b" \n#(),=+-*/;" + b"0123456789" + b"abcdefghijklmnopqrstuvwxyzABCDEFGHIJKLMNOPQRSTUVWXYZ"
        for byte in range(256):
            if byte not in known:
                strange = bytes([byte])
                self.assert_fault(strange, 1, 0)
                self.assert_fault(b"let a" + strange + b" = 1;", 1, 5)
                self.assert_fault(b"let a = 1" + strange + b";", 1, 9)
                self.assert_fault(b"let a = 1; #" + strange + b"\n" + strange, 1, 14)

    def test_known_bytes_are_not_strange(self):
        for byte in b"(),=+-*/;09azAZ":
            self.assert_fault(bytes([byte]), 2, 0)

    def test_long_names(self):
        long = "a" * 17
        self.assert_fault_at("let @" + long + " = 1;", 1)
        self.assert_fault_at("let a = @" + long + ";", 1)
        self.assert_fault_at("@" + long, 1)
        self.assert_fault_at("let a @" + long, 1)
        self.assert_fault_at("piece p (a, b, @" + "Z9" * 9 + ") grain a b;", 1)
        self.assert_fault_at("let a = @" + long + "b" * 3000, 1)

    def test_long_numbers(self):
        many, more = "123456789012345678", "1234567890123456789"
        for number in (
            more, "0" * 19, more + ".5", "5." + more, "0." + "0" * 19, more + "." + more, many + "." + more,
        ):
            self.assert_fault_at("let a = @" + number + ";", 1)
            self.assert_fault_at("@" + number, 1)
        self.assert_fault_at("let a = @" + more + ".", 1)
        self.assert_fault_at("let a = @" + many + "0.5", 1)

    def test_long_numbers_are_not_two(self):
        self.assert_fault_at("let a = 1 @" + "1" * 18 + ";", 2)
        self.assert_fault_at("let a = 1 @" + "1" * 19 + ";", 1)

    def test_point_without_digits(self):
        for behind in ("", ";", " 5;", "a;", ".5;", "\n5;", "#\n5;"):
            self.assert_fault_at("let a = 20@." + behind, 1)
        self.assert_fault_at("let a = @.5;", 1)
        self.assert_fault_at("let a = 1.5@.5;", 1)
        self.assert_fault_at("let a = 1.5 @.", 1)
        self.assert_fault_at("let a = " + "1" * 18 + "@.", 1)
        self.assert_fault_at("let a @1.;", 2)

    def test_number_and_name_side_by_side(self):
        self.assert_fault_at("let a = 1@b;", 2)
        self.assert_fault_at("let a = 1.5@b;", 2)
        self.assert_fault_at("let @1a = 1;", 2)
        self.assert_fault_at("let a = 1.5@" + "b" * 17 + ";", 1)

    def test_both_kinds_the_first_is_told(self):
        self.assert_fault_at("let a = @; $", 2)
        self.assert_fault_at("let a = @$ ;;", 1)
        self.assert_fault_at("let a @; let " + "b" * 17, 2)
        self.assert_fault_at("let @" + "b" * 17 + " ; ;", 1)
        self.assert_fault_at("let a = @1234567890123456789 ) $", 1)
        self.assert_fault_at("let a = @) 1234567890123456789", 2)
        self.assert_fault_at("let a = 1; @a$", 2)
        self.assert_fault_at("let a = 1; let@\t a = ;", 1)

    def test_a_fault_in_a_remark_is_none(self):
        self.assert_fault_at("let # $ ) \x01\n a = @) ;", 2)

    def test_too_soon_is_at_the_length(self):
        for text in ("let", "let a", "let a =", "let a = 1", "point P", "piece", "seam A P Q,", "let a = x"):
            for end in ("", " ", "\n", "  \n ", "#", " # more", "# more\n", "# one\n# $"):
                self.assert_fault(text + end, 2, len(text + end))
                self.assert_fault("let b = 2;" + text + end, 2, 10 + len(text + end))

    def test_no_word_is_a_name(self):
        for word in WORDS:
            for marked in (
                "let @W = 1;", "point @W = (1, 2);", "point P = (1, @W;", "piece @W (a, b, c) grain a b;",
                "piece p (@W, b, c) grain a b;", "piece p (a, @W, c) grain a b;", "piece p (a, b, c, @W) grain a b;",
                "piece p (a, b, c) grain @W b;", "piece p (a, b, c) grain a @W;", "seam @W P Q, B R S;",
                "seam A @W Q, B R S;", "seam A P @W, B R S;", "seam A P Q, @W R S;", "seam A P Q, B @W S;",
                "seam A P Q, B R @W;",
            ):
                if not (marked.startswith("point P = (1, @") and word in ("x", "y", "min", "max")):
                    self.assert_fault_at(marked.replace("W", word), 2)

    def test_no_name_is_a_word(self):
        for marked in (
            "@lets a = 1;", "@Let a = 1;", "@POINT P = Q;", "@a = 1;", "piece p (a, b, c) @Grain a b;",
            "let a = X@(P);", "let a = Min@(1, 2);", "point P = Shift@(P, 1, 2);", "point P = mirror2@(P, Q, R);",
        ):
            self.assert_fault_at(marked, 2)

    def test_words_of_the_other_sort(self):
        for word in ("between", "meet", "foot", "mirror", "turn", "shift", "let", "point", "piece", "seam", "grain"):
            self.assert_fault_at("let a = @" + word + "(P);", 2)
        for word in ("x", "y", "min", "max", "let", "point", "piece", "seam", "grain"):
            self.assert_fault_at("point P = @" + word + "(P);", 2)

    def test_sums_are_no_places(self):
        self.assert_fault_at("point P = @1;", 2)
        self.assert_fault_at("point P = @-Q;", 2)
        self.assert_fault_at("point P = Q @+ R;", 2)
        self.assert_fault_at("point P = (Q@);", 2)
        self.assert_fault_at("let a = (1@, 2);", 2)
        self.assert_fault_at("let a = x((P@));", 2)

    def test_how_many_parts(self):
        for marked in (
            "let a = x(@);", "let a = y(P@, Q);", "let a = min(1@);", "let a = max(1, 2@, 3);", "point P = (1@);",
            "point P = (1, 2@, 3);", "point P = between(P, Q@);", "point P = between(P, Q, 1@, 2);",
            "point P = meet(P, Q, R@);", "point P = meet(P, Q, R, S@, T);", "point P = foot(P, Q@);",
            "point P = foot(P, Q, R@, S);", "point P = mirror(P, Q@);", "point P = mirror(P, Q, R@, S);",
            "point P = turn(P, Q, R@);", "point P = turn(P, Q, R, S@, T);", "point P = shift(P, 1@);",
            "point P = shift(P, 1, 2@, 3);", "point P = shift(@1, P, 2);", "point P = foot(P, Q, @1);",
        ):
            self.assert_fault_at(marked, 2)


class DepthTest(DraftCase):
    def sum_at(self, depth, factor):
        """A let whose factor stands this deep, in parentheses."""
        return "let a = " + "(" * (depth - 1) + factor + ")" * (depth - 1) + ";"

    def place_at(self, depth, place):
        """A point whose place stands this deep, in shifts."""
        return "point P = " + "shift(" * (depth - 1) + place + ", 1, 2)" * (depth - 1) + ";"

    def test_numbers_and_names_6_deep(self):
        for factor in ("1", "20.5", "a", "1 + a * 2 / 3 - 4"):
            self.assert_count(self.sum_at(6, factor), 1)
        self.assert_count(self.place_at(6, "Q"), 1)

    def test_other_tokens_6_deep(self):
        for token in WORDS + SIGNS:
            self.assert_fault_at("let a = " + "(" * 5 + "@" + token, 2)
            self.assert_fault_at("let a = " + "(" * 5 + "@" + token + ")" * 5 + ";", 2)
            self.assert_fault_at("point P = " + "shift(" * 5 + "@" + token, 2)
            self.assert_fault_at(self.place_at(6, "@" + token), 2)
        self.assert_fault_at(self.place_at(6, "@7"), 2)
        self.assert_fault_at(self.place_at(6, "@"), 2)
        self.assert_fault_at("point P = " + "shift(" * 5 + "@$", 1)

    def test_parentheses_in_a_sum(self):
        self.assert_count(self.sum_at(5, "(1)"), 1)
        self.assert_fault_at(self.sum_at(6, "@(1)"), 2)
        self.assert_fault_at(self.sum_at(6, "1 + 2 * @(1)"), 2)
        self.assert_fault_at("let a = " + "(" * 5 + "@(", 2)

    def test_minus(self):
        self.assert_count("let a = - - - - - 1;", 1)
        self.assert_count("let a = 1 - - - - - - 1;", 1)
        self.assert_fault_at("let a = - - - - - @- 1;", 2)
        self.assert_fault_at("let a = 1 - - - - - - @- 1;", 2)
        self.assert_count(self.sum_at(5, "- 1"), 1)
        self.assert_count(self.sum_at(6, "1 - 1"), 1)
        self.assert_fault_at(self.sum_at(6, "@- 1"), 2)
        self.assert_fault_at(self.sum_at(6, "1 - @- 1"), 2)

    def test_a_minus_makes_only_its_factor_deeper(self):
        self.assert_count("let a = - 1 * - - - - - 1 + - - - - - 1;", 1)
        self.assert_count("let a = - (- (- 1)) ;", 1)
        self.assert_fault_at("let a = - (- (- @(1)));", 2)
        self.assert_count("let a = - - - - x(P);", 1)
        self.assert_fault_at("let a = - - - - - @x(P);", 2)

    def test_words_in_a_sum(self):
        for word, parts in (("x", "(P)"), ("y", "(P)"), ("min", "(1, 2)"), ("max", "(1, 2)")):
            self.assert_count(self.sum_at(5, word + parts), 1)
            self.assert_fault_at(self.sum_at(6, "@" + word + parts), 2)
            self.assert_fault_at("let a = " + "(" * 5 + "1 * @" + word, 2)

    def test_pair(self):
        self.assert_count(self.place_at(5, "(1, 2)"), 1)
        self.assert_fault_at(self.place_at(6, "@(1, 2)"), 2)

    def test_words_in_a_place(self):
        for word, parts in (
            ("between", "(P, Q, 1)"), ("meet", "(P, Q, R, S)"), ("foot", "(P, Q, R)"), ("mirror", "(P, Q, R)"),
            ("turn", "(P, Q, R, S)"), ("shift", "(P, 1, 2)"),
        ):
            self.assert_count(self.place_at(5, word + parts), 1)
            self.assert_fault_at(self.place_at(6, "@" + word + parts), 2)
            self.assert_fault_at("point P = " + "shift(" * 5 + "@" + word, 2)

    def test_each_part_is_one_deeper(self):
        deep = "((((1))))"
        for marked in (
            "let a = min({}, 1);", "let a = max(1, {});", "point P = ({}, 1);", "point P = (1, {});",
            "point P = between(P, Q, {});", "point P = shift(P, {}, 1);", "point P = shift(P, 1, {});",
        ):
            self.assert_count(marked.format(deep), 1)
            self.assert_fault_at(marked.format("((((@(1)))))"), 2)
        for marked in (
            "point P = between({}, P, 1);", "point P = between(P, {}, 1);", "point P = meet({}, P, Q, R);",
            "point P = meet(P, {}, Q, R);", "point P = meet(P, Q, {}, R);", "point P = meet(P, Q, R, {});",
            "point P = foot({}, P, Q);", "point P = foot(P, {}, Q);", "point P = foot(P, Q, {});",
            "point P = mirror({}, P, Q);", "point P = mirror(P, {}, Q);", "point P = mirror(P, Q, {});",
            "point P = turn({}, P, Q, R);", "point P = turn(P, {}, Q, R);", "point P = turn(P, Q, {}, R);",
            "point P = turn(P, Q, R, {});", "point P = shift({}, 1, 2);", "let a = x({});", "let a = y({});",
        ):
            self.assert_count(marked.format("(1, x((y(P), 1)))"), 1)
            self.assert_fault_at(marked.format("(1, x((y(@(1, 1)), 1)))"), 2)
            self.assert_count(marked.format("(1, x((1, y(P))))"), 1)

    def test_side_by_side_is_not_deeper(self):
        self.assert_count(self.sum_at(6, " + ".join(["1"] * 100)), 1)
        self.assert_count("let a = " + "(1) * " * 100 + "- 1;", 1)

    def test_each_statement_begins_1_deep(self):
        self.assert_count(self.sum_at(6, "1") + self.place_at(6, "Q") + self.sum_at(6, "1"), 3)
