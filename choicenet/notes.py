"""Statements as lines (point 12): `shown` writes them, `read` reads them."""

from choicenet.errors import NoStatement
from choicenet.statements import folded, is_look, is_pair

SIGNS = {"yes": "Y", "no": "N", "not": "!", "and": "&", "or": "|", "all": "A", "some": "S"}
LEAVES = {"Y": ("yes",), "N": ("no",)}
PAIRS = {"&": "and", "|": "or"}
LOOKS = {"A": "all", "S": "some"}
FIGURES = ("0", "1", "2", "3", "4", "5", "6", "7", "8", "9")


def shown_part(part, inner):
    word = part[0]
    if word == "switch":
        return str(part[1])
    sign = SIGNS[word]
    if word == "not":
        return sign + inner[0]
    if is_pair(part):
        return "(" + inner[0] + sign + inner[1] + ")"
    if is_look(part):
        return sign + str(part[1]) + "." + inner[0]
    return sign


def shown(statement):
    return folded(statement, shown_part)


# Walks a line from its first sign to its last. Statements may lie deep in one another, so no function calls itself:
# `begun` lists those that are not whole yet, the outermost first. Each is a statement's tuple but for its last part,
# or ("(",) as long as it is open whether an `and` or an `or` comes.
class Reader:

    def __init__(self, line):
        self.line = line
        self.spot = 0
        self.begun = []

    # Empty behind the last sign.
    def sign(self):
        return self.line[self.spot:self.spot + 1]

    def demand(self, fine):
        spot = self.spot
        if not fine:
            raise NoStatement(f"no statement is written so, from sign {spot} on")

    def pass_by(self, sign):
        self.demand(self.sign() == sign)
        self.spot = self.spot + 1

    def number(self):
        start = self.spot
        while self.sign() in FIGURES:
            self.spot = self.spot + 1
        figures = self.line[start:self.spot]
        self.demand(figures == "0" or (figures != "" and figures[0] != "0"))
        return int(figures)

    # Gives the next statement that has none within it; what stands ahead of it is begun.
    def leaf(self):
        sign = self.sign()
        while sign == "!" or sign == "(" or sign in LOOKS:
            self.spot = self.spot + 1
            if sign == "!":
                self.begun.append(("not",))
            elif sign == "(":
                self.begun.append(("(",))
            else:
                self.begun.append((LOOKS[sign], self.number()))
                self.pass_by(".")
            sign = self.sign()
        if sign in LEAVES:
            self.spot = self.spot + 1
            return LEAVES[sign]
        return ("switch", self.number())

    # Ends all that is begun and whole with `one`. Gives None where a pair waits for its other statement.
    def ended(self, one):
        while len(self.begun) > 0:
            begun = self.begun.pop()
            if begun[0] == "(":
                sign = self.sign()
                self.demand(sign in PAIRS)
                self.spot = self.spot + 1
                self.begun.append((PAIRS[sign], one))
                return None
            if is_pair(begun):
                self.pass_by(")")
            one = begun + (one,)
        return one


def read(line):
    reader = Reader(line)
    statement = None
    while statement is None:
        statement = reader.ended(reader.leaf())
    reader.demand(reader.sign() == "")
    return statement
