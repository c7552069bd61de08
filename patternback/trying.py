"""Trying: going along one way at a time, and back to the last choice where it can't go on."""

from patternback.marks import takes


class Trial:
    """What trying has gone through of one net and one text, for one place and for later ones."""

    def __init__(self, net, text):
        self.first_step, self.steps = net
        self.text = text
        # For each place come to, by the number of each step: whether it isn't to be tried again.
        self.gone_through = {}
        self.taken_up = 0

    def first_from(self, place):
        """Give the first match at or behind the place, or None."""
        for begin in range(place, len(self.text) + 1):
            way = self.way_from(begin)
            if way is not None:
                return begin, _length(way)
        return None

    def way_from(self, place):
        """Give the preferred way from the place, or None."""
        way = []
        # What is still to be tried, each with the length of the way up to it; the last one is tried first.
        waiting = [(self.first_step, place, 0)]
        while waiting:
            number, at, length = waiting.pop()
            if not self.take_up(number, at):
                continue
            del way[length:]
            way.append((number, at))
            step = self.steps[number]
            if step[0] == "end":
                self.let_try_again(way)
                return way
            if step[0] == "part":
                waiting.append((step[2], at, length + 1))
                waiting.append((step[1], at, length + 1))
            elif at < len(self.text) and takes(step[1], step[2], self.text[at]):
                waiting.append((step[3], at + 1, length + 1))
        return None

    def take_up(self, number, place):
        """Take the step up at the place; tell False where that was done before."""
        if place not in self.gone_through:
            self.gone_through[place] = [False] * len(self.steps)
        through_here = self.gone_through[place]
        if through_here[number]:
            return False
        through_here[number] = True
        self.taken_up += 1
        return True

    def let_try_again(self, way):
        # From what leads to the end it hasn't gone back, so a later match may go along it.
        for number, place in way:
            self.gone_through[place][number] = False


def way_at(net, text, place):
    """Give the preferred way from the place, a list of pairs of a step's number and a place, or None."""
    return Trial(net, text).way_from(place)


def tried_at(net, text, place):
    """Give the length of the match at the place, or None."""
    way = way_at(net, text, place)
    if way is None:
        return None
    return _length(way)


def tried(net, text):
    """Give the first match, a pair of its place and its length, or None."""
    return Trial(net, text).first_from(0)


def tried_count(net, text):
    """Count the pairs of a step and a place that are taken up until the first match is found."""
    trial = Trial(net, text)
    trial.first_from(0)
    return trial.taken_up


def _length(way):
    """Give the length of the match that the way leads through."""
    _, begin = way[0]
    _, end = way[-1]
    return end - begin
