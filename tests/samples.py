"""Trees, signs and patterns that several tests use."""

from itertools import product

SIGNS = "".join(chr(code) for code in range(32, 127) if chr(code) != "%") + "\n\t"
SPECIAL = "()|*?.[]~!"
ANY = ("take", False, "")
NONE = ("take", True, "")
EMPTY = ("row", ())


def take(signs):
    return ("take", True, signs)


def but(signs):
    return ("take", False, signs)


def row(*parts):
    return ("row", parts)


def pick(*parts):
    return ("pick", parts)


def maybe(part, eager=True):
    return ("maybe", part, eager)


def many(part, eager=True):
    return ("many", part, eager)


A, B, C, D = take("a"), take("b"), take("c"), take("d")


# Patterns of every kind, whose nets are gone through with all small texts.
PATTERNS = (
    "", "a", "ab", "a|ab", "ab|a", "a*", "a*!", "a?", "a?!", "a*b", "a*!b", "(a|b)*!b", "|a", "a|", "[]", ".",
    "a?a?b", "(ab|a)(bc|c)?", "(a*b|a)*c", "((a|ab)(c|bcd?)*)?!c", "[!a]*!a", "a*a*a*b", "()?a", "(a|a)b|(|)c",
)

# Patterns and texts as long as may be, with the first match that point 9 asks for.
LARGE = (
    # A way goes through the whole text.
    ("a" * 1000, "a" * 1000, (0, 1000)),
    ("a*", "a" * 1000, (0, 1000)),
    ("a*!b", "a" * 999 + "b", (0, 1000)),
    ("a" * 2000, "a" * 1000, None),
    # Parts lead to parts over the whole net.
    ("|" * 2000, "a", (0, 0)),
    ("a?" * 1000, "", (0, 0)),
    ("a?!" * 666, "a", (0, 0)),
    ("a|" * 999 + "b", "b", (0, 1)),
    ("a*" * 999 + "b", "b", (0, 1)),
    ("(" + "|" * 1996 + ")b", "a", None),
    # Both at once.
    ("a?" * 666 + "a" * 668, "a" * 1000, (0, 1000)),
    ("(" + "b?" * 998 + "a)*", "a" * 1000, (0, 1000)),
)


def nested(part, levels):
    """The part within so many maybes."""
    for _ in range(levels):
        part = maybe(part)
    return part


def texts(alphabet, longest):
    """All texts of these signs, the shorter ones first."""
    for length in range(longest + 1):
        for signs in product(alphabet, repeat=length):
            yield "".join(signs)


LEAVES = [A, take("!"), take("~"), take("|!"), NONE, ANY, but("]a"), EMPTY]


def small_trees(levels):
    """Trees of every kind, not all of them, up to so many levels above the leaves."""
    trees = list(LEAVES)
    for _ in range(levels):
        trees += repeats(trees)
        trees += rows_and_picks(LEAVES + one_of_each(trees))
    return trees


def repeats(parts):
    made = []
    for part in parts:
        for eager in (True, False):
            made.append(maybe(part, eager))
            if not plainly_bare(part):
                made.append(many(part, eager))
    return made


def rows_and_picks(parts):
    made = []
    for count in (2, 3):
        for chosen in product(parts, repeat=count):
            made.append(row(*chosen))
            made.append(pick(*chosen))
    return made


def one_of_each(trees):
    """The first tree of each kind that is above a leaf, eager and not."""
    found = {}
    for tree in trees:
        if tree not in LEAVES:
            found.setdefault((tree[0], tree[-1] is True), tree)
    return list(found.values())


def plainly_bare(tree):
    """Point 3, word by word."""
    kind = tree[0]
    if kind == "row":
        return all(plainly_bare(part) for part in tree[1])
    if kind == "pick":
        return any(plainly_bare(part) for part in tree[1])
    return kind in ("maybe", "many")


def plain_size(tree):
    """Point 4, word by word."""
    return 1 + inner_size(tree)


def inner_size(tree):
    kind = tree[0]
    if kind == "take":
        return 1
    if kind == "row":
        return sum(inner_size(part) for part in tree[1])
    if kind == "pick":
        return sum(inner_size(part) for part in tree[1]) + len(tree[1]) - 1
    return inner_size(tree[1]) + 1
