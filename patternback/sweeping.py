"""Sweeping: going along all ways at once, place by place."""

from patternback.marks import takes


class Row:
    """The row of one place, while it is made."""

    def __init__(self, steps):
        self.steps = steps
        self.pairs = []
        self.held = [False] * len(steps)
        self.begin_at_end = None

    def lead_in(self, number, begin):
        """Put in the step and all that it leads to, up to the first end."""
        if self.begin_at_end is not None:
            return
        # The last one is led in first, with all that it leads to.
        waiting = [number]
        while waiting:
            led_in = waiting.pop()
            if self.held[led_in]:
                continue
            self.held[led_in] = True
            self.pairs.append((led_in, begin))
            step = self.steps[led_in]
            if step[0] == "part":
                waiting.append(step[2])
                waiting.append(step[1])
            elif step[0] == "end":
                self.begin_at_end = begin
                return


class Sweep:
    """What sweeping has come to in one text: the row made last, and the match noted last."""

    def __init__(self, net, text):
        self.first_step, self.steps = net
        self.text = text
        self.row_ahead = []
        self.noted = None

    def go_to(self, place):
        """Make the row of the place, which is the next one, and give its pairs."""
        row = Row(self.steps)
        for number, begin in self.row_ahead:
            step = self.steps[number]
            if step[0] == "take" and takes(step[1], step[2], self.text[place - 1]):
                row.lead_in(step[3], begin)
        if self.noted is None:
            row.lead_in(self.first_step, place)
        if row.begin_at_end is not None:
            self.noted = (row.begin_at_end, place - row.begin_at_end)
        self.row_ahead = row.pairs
        return row.pairs


def rows(net, text):
    """List the rows, one for each place, each a list of pairs of a step's number and a begin."""
    sweep = Sweep(net, text)
    return [sweep.go_to(place) for place in range(len(text) + 1)]


def counted(net, text):
    """Count the pairs of all rows together."""
    sweep = Sweep(net, text)
    pairs = 0
    for place in range(len(text) + 1):
        pairs += len(sweep.go_to(place))
    return pairs


def swept(net, text):
    """Give the first match, a pair of its place and its length, or None."""
    sweep = Sweep(net, text)
    for place in range(len(text) + 1):
        sweep.go_to(place)
    return sweep.noted
