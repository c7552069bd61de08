"""Nets: the steps by which a tree goes through a text."""


def net_of(tree):
    """Give the tree's net: the number of its first step, and the list of its steps."""
    steps = [("end",)]
    first_step = _lay(tree, 0, steps)
    return first_step, steps


def _lay(tree, then, steps):
    """Put the steps of the tree, behind which `then` is the next step, and give the first one's number."""
    kind = tree[0]
    if kind == "take":
        return _put(("take", tree[1], tree[2], then), steps)
    if kind == "row":
        # From behind, so that what a part leads to has its number already.
        for part in reversed(tree[1]):
            then = _lay(part, then, steps)
        return then
    if kind == "pick":
        beginnings = []
        for part in tree[1]:
            beginnings.append(_lay(part, then, steps))
        return _put_choices(beginnings, steps)
    if kind == "maybe":
        return _put(_fork(_lay(tree[1], then, steps), then, tree[2]), steps)
    # The part leads back to this step, which needs a number before it can be told.
    number = _put((), steps)
    steps[number] = _fork(_lay(tree[1], number, steps), then, tree[2])
    return number


def _put(step, steps):
    steps.append(step)
    return len(steps) - 1


def _fork(within, behind, eager):
    """Make the step that leads into a repeat's part or behind it."""
    if eager:
        return ("part", within, behind)
    return ("part", behind, within)


def _put_choices(beginnings, steps):
    """Put the steps that lead to these ones, the earlier ones preferred, and give the first one's number."""
    choice = beginnings[-1]
    for number in reversed(beginnings[:-1]):
        choice = _put(("part", number, choice), steps)
    return choice
