"""Points 8 and 9, word by word: a second way to match that the program's own ones are compared with."""

import re



def ends(tree, text, place):
    """The ends to which the tree leads from the place, in order of preference, each once."""
    return list(dict.fromkeys(all_ends(tree, text, place)))


def all_ends(tree, text, place):
    kind = tree[0]
    if kind == "take":
        return take_ends(tree, text, place)
    if kind == "row":
        if not tree[1]:
            return [place]
        rest = ("row", tree[1][1:])
        return [end for middle in ends(tree[1][0], text, place) for end in ends(rest, text, middle)]
    if kind == "pick":
        return [end for part in tree[1] for end in ends(part, text, place)]
    found = ends(tree[1], text, place)
    if kind == "many":
        found = [end for middle in found for end in ends(tree, text, middle)]
    return found + [place] if tree[2] else [place] + found


def take_ends(tree, text, place):
    _, inside, signs = tree
    if place < len(text) and (text[place] in list(signs)) is inside:
        return [place + 1]
    return []


def length_at(tree, text, place):
    for end in ends(tree, text, place):
        return end - place
    return None


def first_behind(tree, text, place):
    """The first match at or behind the place."""
    for begin in range(place, len(text) + 1):
        length = length_at(tree, text, begin)
        if length is not None:
            return begin, length
    return None


def all_behind(tree, text, place):
    """The matches one behind the other, from the place on."""
    found = first_behind(tree, text, place)
    if found is None:
        return []
    begin, length = found
    return [found] + all_behind(tree, text, begin + length if length else begin + 1)


def as_expression(tree):
    """The tree as a regular expression of Python's, to be used with DOTALL."""
    kind = tree[0]
    if kind == "take":
        return take_as_expression(tree[1], tree[2])
    if kind == "row":
        return "".join(bound(part) for part in tree[1])
    if kind == "pick":
        return "|".join(bound(part) for part in tree[1])
    return bound(tree[1]) + ("*" if kind == "many" else "?") + ("" if tree[2] else "?")


def bound(tree):
    return "(?:" + as_expression(tree) + ")"


def take_as_expression(inside, signs):
    if signs == "":
        return "(?!)" if inside else "."
    return "[" + ("" if inside else "^") + re.escape(signs) + "]"


def compiled(tree):
    return re.compile(as_expression(tree), re.DOTALL)


def as_pair(found):
    """The match of a regular expression as a pair of its place and its length."""
    return None if found is None else (found.start(), found.end() - found.start())
