"""A second reader of patterns, written another way, that the program's own one is compared with."""

import re

from patternback.errors import EmptyRound, NothingAhead, TooDeep, Unclosed, Unopened
from samples import plainly_bare

PIECE = re.compile(r"\[(?P<out>!?)(?P<inner>(?:~.|[^]~])*)\]|~(?P<one>.)|(?P<rest>.)", re.DOTALL)
REPEAT = re.compile(r"([*?])(!?)")


class PlainReader:
    """Reads by going down: a pattern holds rows, a row pieces, a piece perhaps a pattern."""

    def __init__(self, pattern):
        self.pattern = pattern
        self.place = 0

    def next_is(self, signs):
        return self.place < len(self.pattern) and self.pattern[self.place] in signs

    def read_all(self):
        tree = self.read_rows(0)
        if self.next_is(")"):
            raise Unopened
        return tree

    def read_rows(self, depth):
        found = [self.read_row(depth)]
        while self.next_is("|"):
            self.place += 1
            found.append(self.read_row(depth))
        return found[0] if len(found) == 1 else ("pick", tuple(found))

    def read_row(self, depth):
        found = []
        while self.place < len(self.pattern) and not self.next_is("|)"):
            found.append(self.read_repeated(depth))
        return found[0] if len(found) == 1 else ("row", tuple(found))

    def read_repeated(self, depth):
        if self.next_is("*?"):
            raise NothingAhead
        piece = self.read_piece(depth)
        repeat = REPEAT.match(self.pattern, self.place)
        if not repeat:
            return piece
        self.place = repeat.end()
        if repeat[1] == "?":
            return ("maybe", piece, repeat[2] == "")
        if plainly_bare(piece):
            raise EmptyRound
        return ("many", piece, repeat[2] == "")

    def read_piece(self, depth):
        found = PIECE.match(self.pattern, self.place)
        self.place = found.end()
        if found["inner"] is not None:
            return ("take", found["out"] == "", re.sub(r"(?s)~(.)", r"\1", found["inner"]))
        if found["one"] is not None:
            return ("take", True, found["one"])
        return self.read_rest(found["rest"], depth)

    def read_rest(self, sign, depth):
        if sign == ".":
            return ("take", False, "")
        if sign == "]":
            raise Unopened
        if sign in "[~":
            raise Unclosed
        if sign == "(":
            return self.read_group(depth)
        return ("take", True, sign)

    def read_group(self, depth):
        if depth == 30:
            raise TooDeep
        tree = self.read_rows(depth + 1)
        if self.place == len(self.pattern):
            raise Unclosed
        self.place += 1
        return tree


def plainly_read(pattern):
    return PlainReader(pattern).read_all()
