"""Trees: which ones are bare, how large they are, and how they are written."""

from patternback.marks import SPECIAL


def bare(tree):
    """Tell whether the tree may take nothing."""
    kind = tree[0]
    if kind == "take":
        return False
    if kind == "row":
        for part in tree[1]:
            if not bare(part):
                return False
        return True
    if kind == "pick":
        for part in tree[1]:
            if bare(part):
                return True
        return False
    return True


def size(tree):
    """Count the steps of the tree's net."""
    steps = 1
    waiting = [tree]
    while waiting:
        part = waiting.pop()
        steps += _own_steps(part)
        waiting.extend(_parts(part))
    return steps


def shown(tree):
    """Write the tree as a pattern."""
    written = []
    waiting = [tree]
    while waiting:
        front = waiting.pop()
        if isinstance(front, str):
            written.append(front)
        else:
            # The last one waiting is written first.
            waiting.extend(_laid_out(front)[::-1])
    return "".join(written)


def _parts(tree):
    """Give the trees that stand straight within the tree."""
    kind = tree[0]
    if kind == "take":
        return ()
    if kind == "row" or kind == "pick":
        return tree[1]
    return (tree[1],)


def _own_steps(tree):
    """Count the steps that the tree needs beside those of its parts."""
    kind = tree[0]
    if kind == "row":
        return 0
    if kind == "pick":
        return len(tree[1]) - 1
    return 1


def _laid_out(tree):
    """List what the tree is written as: texts, and trees that are still to be written."""
    kind = tree[0]
    if kind == "take":
        return [_shown_take(tree[1], tree[2])]
    if kind == "row":
        return _row_laid_out(tree[1])
    if kind == "pick":
        return _pick_laid_out(tree[1])
    return _bracketed(tree[1], ("row", "pick", "maybe", "many")) + [_repeat_mark(kind, tree[2])]


def _row_laid_out(parts):
    laid = []
    for part in parts:
        laid.extend(_bracketed(part, ("row", "pick")))
    return laid


def _pick_laid_out(parts):
    laid = _bracketed(parts[0], ("pick",))
    for part in parts[1:]:
        laid.append("|")
        laid.extend(_bracketed(part, ("pick",)))
    return laid


def _bracketed(part, kinds):
    """List the part, in round brackets where it is of one of these kinds."""
    if part[0] in kinds:
        return ["(", part, ")"]
    return [part]


def _repeat_mark(kind, eager):
    mark = "*" if kind == "many" else "?"
    if eager:
        return mark
    return mark + "!"


def _shown_take(inside, signs):
    if inside and len(signs) == 1:
        return _escaped(signs)
    if inside:
        return "[" + _escaped(signs) + "]"
    if signs == "":
        return "."
    return "[!" + _escaped(signs) + "]"


def _escaped(signs):
    """Write the signs with a `~` ahead of each special one."""
    written = []
    for sign in signs:
        if sign in SPECIAL:
            written.append("~")
        written.append(sign)
    return "".join(written)
