import copy
import itertools
import random
import re
import unittest

from choicenet.errors import NetError, NoStatement
from choicenet.notes import read, shown
from tests.helper import EXAMPLE, NO, SIXTY_FIGURES, YES, drawn_statements, every_statement, named, nested, size

ONE = ("switch", 1)
TWO = ("switch", 2)
LINES = {
    "Y": YES,
    "N": NO,
    "0": ("switch", 0),
    "7": ("switch", 7),
    "10": ("switch", 10),
    "907": ("switch", 907),
    "!Y": ("not", YES),
    "!!0": ("not", ("not", ("switch", 0))),
    "(1&2)": ("and", ONE, TWO),
    "(2|1)": ("or", TWO, ONE),
    "A3.1": ("all", 3, ONE),
    "S3.1": ("some", 3, ONE),
    "A0.N": ("all", 0, NO),
    "S120.!1": ("some", 120, ("not", ONE)),
    "(4|(2&7))": EXAMPLE,
    "((4|2)&7)": ("and", ("or", ("switch", 4), TWO), ("switch", 7)),
    "!(1&2)": ("not", ("and", ONE, TWO)),
    "(!1&2)": ("and", ("not", ONE), TWO),
    "(1&!2)": ("and", ONE, ("not", TWO)),
    "A1.(1|2)": ("all", 1, ("or", ONE, TWO)),
    "(A1.1|2)": ("or", ("all", 1, ONE), TWO),
    "(1|S2.2)": ("or", ONE, ("some", 2, TWO)),
    "!A1.!S2.(Y&N)": ("not", ("all", 1, ("not", ("some", 2, ("and", YES, NO))))),
    "((Y|N)&(1|!0))": ("and", ("or", YES, NO), ("or", ONE, ("not", ("switch", 0)))),
}
REFUSED = """(X) (1) (1&2 1&2 A.1 A03.1 ! 01 X 00 007 -1 +1 1.5 1_0 1e3 y n a3.1 s3.1 () (&) (1&) (&2) (1&2)) ((1&2)
((1&2)) (1&2&3) (1&2|3) (1&&2) (1|2)| (1+2) (1,2) [1&2] {1&2} (1^2) A3 A3. A31 A3.. A3.1. A3,1 A1 S S. S.1 S3 S3.
S03.1 S00.1 AY.1 A!3.1 AS3.1 A-1.1 A3.S A3.A3. AA3.1 1! !! Y! YY YN NY 1Y Y1 1(1&2) (1&2)1 (1&2)(1&2) 1A3.1 !(1)
(1&01) (01&1) A3.01 !01 !A.1 not 1|2 & | . ( ) A Y. .1 "1" '1' ("yes",) ~1 1~ #1 $1 *1 /1 :1 ;1 <1 =1 >1 ?1 @1 \\1 ^1
`1""".split() + ["", " ", "(1 & 2)", " 1", "1 ", "! 1", "A 3.1", "A3. 1", "A3 .1", "1 2", "( 1&2)", "(1&2 )", "Y "]
SIGNS = [chr(number) for number in range(ord(" "), ord("~") + 1) if chr(number) != "%"]


def is_line(text):
    """Whether a text is the line of a statement: what is whole in it is laid together until just Y is left."""
    text = re.sub(r"[AS](0|[1-9][0-9]*)\.", "!", text)
    text = re.sub(r"(?<![0-9])(0|[1-9][0-9]*)(?![0-9])|N", "Y", text)
    before = None
    while text != before:
        before = text
        text = re.sub(r"!Y|\(Y[&|]Y\)", "Y", text)
    return text == "Y"


class NoteCase(unittest.TestCase):
    def assert_refused(self, line):
        for error in (NoStatement, NetError, ValueError):
            with self.subTest(line=line), self.assertRaises(error) as caught:
                read(line)
            self.assertIs(type(caught.exception), NoStatement)

    def assert_there_and_back(self, statement):
        line = shown(statement)
        self.assertIs(type(line), str)
        self.assertEqual(read(line), statement)

    # What is read is a statement just where it is written as the line it was read from.
    def assert_read_just_where_a_line(self, text):
        if is_line(text):
            self.assertEqual(shown(read(text)), text)
            return
        try:
            found = read(text)
        except NoStatement:
            return
        self.fail(f"{text!r} was read to {found!r}")


class Shown(NoteCase):
    def test_each_line(self):
        for line, statement in LINES.items():
            self.assertEqual(shown(statement), line)

    def test_other_statements_have_other_lines(self):
        lines = [shown(statement) for statement in every_statement(4, [0, 12])]
        self.assertEqual(len(set(lines)), len(lines))


class Read(NoteCase):
    def test_each_line(self):
        for line, statement in LINES.items():
            self.assertEqual(read(line), statement)

    def test_kinds(self):
        def assert_kinds(statement):
            self.assertIs(type(statement), tuple)
            for part in statement:
                self.assertIn(type(part), (str, int, tuple))
                if type(part) is tuple:
                    assert_kinds(part)

        for line in LINES:
            assert_kinds(read(line))

    def test_every_small_statement_there_and_back(self):
        for statement in every_statement(4, [0, 12]):
            self.assert_there_and_back(statement)

    def test_drawn_statements_there_and_back(self):
        for statement in drawn_statements(31, 60, 130, [0, 1, 9, 10, 100, 2026, 5, 6, 7, 8, 11, 12, 13, SIXTY_FIGURES]):
            self.assertEqual(size(statement), 130)
            self.assert_there_and_back(statement)

    def test_each_refused_line(self):
        for line in REFUSED:
            self.assertFalse(is_line(line), line)
            self.assert_refused(line)

    def test_each_refused_line_within_another(self):
        for line in REFUSED:
            for text in ("!" + line, "A3." + line, "(" + line + "&Y)", "(Y|" + line + ")"):
                self.assert_read_just_where_a_line(text)

    def test_every_short_text(self):
        for length in range(5):
            for signs in itertools.product("YN01!(&|)A.S ", repeat=length):
                self.assert_read_just_where_a_line("".join(signs))

    def test_every_text_of_two_signs(self):
        for signs in itertools.product(SIGNS, repeat=2):
            self.assert_read_just_where_a_line("".join(signs))

    def assert_changed_lines(self, line):
        for spot in range(len(line) + 1):
            for sign in [""] + SIGNS:
                self.assert_read_just_where_a_line(line[:spot] + sign + line[spot:])
                self.assert_read_just_where_a_line(line[:spot] + sign + line[spot + 1:])

    def test_lines_with_one_sign_put_in_left_out_or_changed(self):
        for line in LINES:
            self.assert_changed_lines(line)

    def test_drawn_lines_with_one_sign_put_in_left_out_or_changed(self):
        for statement in drawn_statements(32, 8, 14, [0, 3, 40, 507]):
            self.assert_changed_lines(shown(statement))

    def test_some_changes_that_leave_a_line(self):
        for text, statement in (("A13.1", ("all", 13, ONE)), ("A3.11", ("all", 3, ("switch", 11))),
                                ("S3.1", ("some", 3, ONE)), ("A3.Y", ("all", 3, YES)), ("A30.1", ("all", 30, ONE)),
                                ("!A3.1", ("not", ("all", 3, ONE))), ("A3.!1", ("all", 3, ("not", ONE)))):
            self.assertEqual(read(text), statement)

    def test_long_drawn_lines_with_one_sign_changed(self):
        source = random.Random(33)
        for statement in drawn_statements(34, 20, 130, [0, 1, 20, 300]):
            line = shown(statement)
            for _ in range(60):
                spot = source.randrange(len(line))
                sign = source.choice("YN01!(&|)A.S ")
                self.assert_read_just_where_a_line(line[:spot] + sign + line[spot:])
                self.assert_read_just_where_a_line(line[:spot] + sign + line[spot + 1:])
                self.assert_read_just_where_a_line(line[:spot] + line[spot + 1:])
                self.assert_read_just_where_a_line(line[:spot])


class Bounds(NoteCase):
    def test_a_hundred_and_thirty_one_within_the_other(self):
        self.assertEqual(read("!" * 129 + "1"), nested([lambda inner: ("not", inner)], 129, ONE))
        self.assertEqual(shown(nested([lambda inner: ("all", 3, inner)], 129, YES)), "A3." * 129 + "Y")
        wraps = [lambda inner: ("and", inner, ONE), lambda inner: ("or", TWO, inner), lambda inner: ("not", inner),
                 lambda inner: ("all", 0, inner), lambda inner: ("some", 44, inner)]
        for wrap in wraps:
            self.assert_there_and_back(nested([wrap], 129, NO))
        self.assert_there_and_back(nested(wraps, 129, NO))

    def test_far_deeper_ones(self):
        line = "(" * 3000 + "1" + "&2)" * 3000
        self.assertEqual(shown(read(line)), line)
        self.assert_refused(line[:-1])
        self.assert_refused(line + ")")
        self.assert_refused("!" * 3000)
        self.assert_refused("(" * 3000)

    def test_numbers_of_sixty_figures(self):
        figures = "9" * 60
        self.assertEqual(read(figures), ("switch", SIXTY_FIGURES))
        self.assertEqual(shown(("switch", SIXTY_FIGURES)), figures)
        self.assertEqual(read(f"A{figures}.S1{figures}.Y"), ("all", SIXTY_FIGURES, ("some", int("1" + figures), YES)))
        self.assertEqual(shown(("all", 10 ** 59, NO)), "A1" + "0" * 59 + ".N")
        self.assert_refused("0" + figures)
        self.assert_refused("0" * 60)
        self.assert_refused("A0" + figures + ".1")

    def test_fourteen_switches(self):
        statement = ("switch", 0)
        for switch in range(1, 14):
            statement = ("or", statement, ("switch", switch * 7))
        self.assertEqual(len(named(statement)), 14)
        self.assert_there_and_back(statement)

    def test_what_is_handed_in_stays_as_it_was(self):
        statement = ("all", 1, ("or", EXAMPLE, ("some", 2, ("not", ONE))))
        before = copy.deepcopy(statement)
        shown(statement)
        self.assertEqual(statement, before)

    def test_lines_are_read_apart(self):
        self.assert_refused("(1&")
        self.assertEqual(read("2"), TWO)
        self.assertEqual(read("2"), TWO)


if __name__ == "__main__":
    unittest.main()
