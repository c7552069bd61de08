"""Points 10 to 12, word by word: going along nets plainly, and nets whose steps are numbered in another way."""

from patternback.nets import net_of
from patternback.reading import read


def in_order(net):
    """The numbers of the steps, in the order in which they are come to first, the preferred ones ahead."""
    first, steps = net
    order = {}
    waiting = [first]
    while waiting:
        number = waiting.pop()
        if number not in order:
            order[number] = len(order)
            waiting.extend(led_to(steps[number])[::-1])
    return list(order)


def led_to(step):
    """The numbers of the steps that the step leads to, the preferred one first."""
    return list(step[1:]) if step[0] == "part" else list(step[3:])


def renumbered(net, order):
    """The same net, its steps standing in this order of their numbers."""
    first, steps = net
    new = {number: at for at, number in enumerate(order)}
    return new[first], [with_numbers(steps[number], new) for number in order]


def with_numbers(step, new):
    if step[0] == "part":
        return ("part", new[step[1]], new[step[2]])
    return (*step[:3], *[new[number] for number in step[3:]])


def plainly_numbered(net):
    """The same net, the steps numbered in the order in which they are come to."""
    return renumbered(net, in_order(net))


def plain_net_for(pattern):
    """The pattern's net, its steps numbered in the order in which they are come to."""
    return plainly_numbered(net_of(read(pattern)))


def other_numberings(net):
    """The same net with its steps from behind, with its end first, with its end last, and mixed."""
    many = len(net[1])
    forward = list(range(many))
    end = net[1].index(("end",))
    others = [number for number in forward if number != end]
    # 7919 is a prime larger than the nets here, so each number comes once.
    mixed = [number * 7919 % many for number in forward]
    return [renumbered(net, order) for order in (forward[::-1], [end] + others, others + [end], mixed)]


def ways(net, text, place):
    """All ways from the place to the end, the preferred ones first."""
    return list(ways_on(net[1], text, [(net[0], place)]))


def ways_on(steps, text, way):
    number, place = way[-1]
    if steps[number][0] == "end":
        yield way
    for pair in pairs_on(steps, text, number, place):
        yield from ways_on(steps, text, way + [pair])


def pairs_on(steps, text, number, place):
    """What a step at a place leads to, the preferred one first."""
    step = steps[number]
    if step[0] == "part":
        return [(step[1], place), (step[2], place)]
    if step[0] == "take" and place < len(text) and (text[place] in list(step[2])) is step[1]:
        return [(step[3], place + 1)]
    return []


class PlainTrial:
    """Point 11: the pairs in the order in which they are taken up, until a match is found."""

    def __init__(self, net, text):
        self.first, self.steps = net
        self.text = text
        self.taken_up = []
        self.gone_back_from = set()

    def first_match(self):
        for place in range(len(self.text) + 1):
            end = self.end_from(self.first, place)
            if end is not None:
                return place, end - place
        return None

    def end_from(self, number, place):
        if (number, place) in self.gone_back_from:
            return None
        self.taken_up.append((number, place))
        if self.steps[number][0] == "end":
            return place
        for pair in pairs_on(self.steps, self.text, number, place):
            end = self.end_from(*pair)
            if end is not None:
                return end
        self.gone_back_from.add((number, place))
        return None


class PlainSweep:
    """Point 12: the rows, and the match noted last."""

    def __init__(self, net, text):
        self.first, self.steps = net
        self.text = text
        self.noted = None
        self.rows = []

    def all_rows(self):
        for place in range(len(self.text) + 1):
            early = self.noted is not None
            self.rows.append([])
            self.ended = False
            if place:
                for number, begin in self.rows[place - 1]:
                    self.go_on_from(number, begin, place)
            if not early:
                self.lead_in(self.first, place, place)
        return self.rows

    def go_on_from(self, number, begin, place):
        if self.steps[number][0] == "take":
            for behind, _ in pairs_on(self.steps, self.text, number, place - 1):
                self.lead_in(behind, begin, place)

    def lead_in(self, number, begin, place):
        if self.ended or number in [held for held, _ in self.rows[place]]:
            return
        self.rows[place].append((number, begin))
        if self.steps[number][0] == "end":
            self.noted = (begin, place - begin)
            self.ended = True
        elif self.steps[number][0] == "part":
            self.lead_in(self.steps[number][1], begin, place)
            self.lead_in(self.steps[number][2], begin, place)
