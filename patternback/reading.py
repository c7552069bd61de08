"""Reading: from a pattern to the tree that it stands for."""

from patternback.errors import EmptyRound, NothingAhead, TooDeep, Unclosed, Unopened
from patternback.trees import bare

MOST_OPEN = 30


class Group:
    """What is read so far of a group, or of the whole pattern."""

    def __init__(self):
        self.rows = []
        self.pieces = []
        self.repeatable = False

    def put(self, piece):
        """Put a sign, a set or a group at the end of the row."""
        self.pieces.append(piece)
        self.repeatable = True

    def repeat_last(self, kind, eager):
        """Make the last piece of the row a repeat, which can't be repeated itself."""
        self.pieces[-1] = (kind, self.pieces[-1], eager)
        self.repeatable = False

    def end_row(self):
        """End the row that is being read, and begin the next one."""
        self.rows.append(_one_or_all("row", self.pieces))
        self.pieces = []
        self.repeatable = False

    def whole(self):
        """End the last row, and give the tree of all rows."""
        self.end_row()
        return _one_or_all("pick", self.rows)


def read(pattern):
    """Give the tree that the pattern stands for; raise a PatternError where it is no pattern."""
    groups = [Group()]
    place = 0
    while place < len(pattern):
        place = _read_on(pattern, place, groups)
    if len(groups) > 1:
        raise Unclosed("a group is open at the pattern's end")
    return groups[0].whole()


def _one_or_all(kind, trees):
    if len(trees) == 1:
        return trees[0]
    return (kind, tuple(trees))


def _read_on(pattern, place, groups):
    """Read what begins at the place into the open groups, and give the place behind it."""
    sign = pattern[place]
    if sign == "*" or sign == "?":
        return _read_repeat(pattern, place, groups[-1])
    if sign == "(":
        _begin_group(place, groups)
    elif sign == ")":
        _end_group(place, groups)
    elif sign == "|":
        groups[-1].end_row()
    else:
        take, place_behind = _read_take(pattern, place)
        groups[-1].put(take)
        return place_behind
    return place + 1


def _begin_group(place, groups):
    # The first of the groups is the whole pattern, which no bracket opened.
    if len(groups) > MOST_OPEN:
        raise TooDeep(f"too many groups are open ahead of the bracket at place {place}")
    groups.append(Group())


def _end_group(place, groups):
    if len(groups) == 1:
        raise Unopened(f"no group is open ahead of the bracket at place {place}")
    ended = groups.pop()
    groups[-1].put(ended.whole())


def _read_repeat(pattern, place, group):
    """Make the group's last piece a repeat, and give the place behind the repeat's signs."""
    if not group.repeatable:
        raise NothingAhead(f"there is nothing to repeat ahead of place {place}")
    kind = "many" if pattern[place] == "*" else "maybe"
    if kind == "many" and bare(group.pieces[-1]):
        raise EmptyRound(f"the piece ahead of place {place} may take nothing")
    eager = pattern[place + 1:place + 2] != "!"
    group.repeat_last(kind, eager)
    return place + 1 if eager else place + 2


def _read_take(pattern, place):
    """Give the take that begins at the place, and the place behind it."""
    sign = pattern[place]
    if sign == "]":
        raise Unopened(f"no set is open ahead of the bracket at place {place}")
    if sign == "[":
        return _read_set(pattern, place + 1)
    if sign == ".":
        return ("take", False, ""), place + 1
    taken, place_behind = _read_sign(pattern, place)
    return ("take", True, taken), place_behind


def _read_set(pattern, place):
    """Give the take of the set whose inner part begins at the place, and the place behind its end."""
    inside = pattern[place:place + 1] != "!"
    if not inside:
        place += 1
    signs = []
    while place < len(pattern) and pattern[place] != "]":
        sign, place = _read_sign(pattern, place)
        signs.append(sign)
    if place == len(pattern):
        raise Unclosed("a set is open at the pattern's end")
    return ("take", inside, "".join(signs)), place + 1


def _read_sign(pattern, place):
    """Give the sign that stands at the place, or behind a `~` there, and the place behind it."""
    if pattern[place] != "~":
        return pattern[place], place + 1
    if place + 1 == len(pattern):
        raise Unclosed("nothing stands behind a `~` at the pattern's end")
    return pattern[place + 1], place + 2
