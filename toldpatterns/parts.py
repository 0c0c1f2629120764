"""The parts of a pattern, each with its ways through a text.

A part is measured first: then its `reach` tells where its ways end, from each place. Where a way may go on to
doesn't hang on what it captured, so the first way to a place can be followed without ever going back: wherever
there's a choice, the first one is taken from which that place is still reached.

`follow` goes from a place through the first way that ends in one of the targets, notes its captures and tells
its end. There has to be such a way.
"""

from toldpatterns.places import any_times_onward, leading_to, one_behind_other, only, staying, without
from toldpatterns.ranges import have_value


class OneValue:
    """A plain value, the dot, a set, or an escape that stands for values."""

    def __init__(self, ranges, inverted):
        self.ranges = ranges
        self.inverted = inverted
        self.reach = []

    def measure(self, text):
        self.reach = [0] * (text.end_place() + 1)
        for (place, value) in enumerate(text.scalars):
            if have_value(self.ranges, value) != self.inverted:
                self.reach[place] = only(place + 1)

    def follow(self, place, targets, captures):
        return place + 1


class Standpoint:
    """The sign of begin or of end, or the escape b: it stays where it is, if it may stand there."""

    def __init__(self, sign):
        self.sign = sign
        self.reach = []

    def may_stand(self, text, place):
        if self.sign == "^":
            return place == 0
        if self.sign == "$":
            return place == text.end_place()
        return text.is_word_edge(place)

    def measure(self, text):
        self.reach = staying(text.end_place() + 1)
        for place in range(text.end_place() + 1):
            if not self.may_stand(text, place):
                self.reach[place] = 0

    def follow(self, place, targets, captures):
        return place


class Row:
    """Steps, one behind the other."""

    def __init__(self, steps):
        self.steps = steps
        self.reach = []
        # How far it comes yet, when 0, 1, .. steps are done.
        self.reach_after = []

    def measure(self, text):
        reaches = [staying(text.end_place() + 1)]
        for step in reversed(self.steps):
            step.measure(text)
            reaches.append(one_behind_other(step.reach, reaches[-1]))
        self.reach_after = list(reversed(reaches))
        self.reach = self.reach_after[0]

    def follow(self, place, targets, captures):
        for (done, step) in enumerate(self.steps):
            wanted = leading_to(targets, self.reach_after[done + 1], step.reach[place])
            place = step.follow(place, wanted, captures)
        return place


class Choice:
    """Rows, of which the first ones come first."""

    def __init__(self, rows):
        self.rows = rows
        self.reach = []

    def measure(self, text):
        self.reach = [0] * (text.end_place() + 1)
        for row in self.rows:
            row.measure(text)
            self.reach = [ours | more for (ours, more) in zip(self.reach, row.reach)]

    def follow(self, place, targets, captures):
        fitting = [row for row in self.rows if row.reach[place] & targets]
        return fitting[0].follow(place, targets, captures)


class Repetition:
    """A body gone through so many times; most is None where there's no bound."""

    def __init__(self, body, least, most):
        self.body = body
        self.least = least
        self.most = most
        self.reach = []
        # How far it comes yet, when the body has been gone through 0, 1, .. times.
        self.reach_after = []

    def measure(self, text):
        self.body.measure(text)
        if self.most is None:
            times = self.least
            reach = any_times_onward(self.body.reach)
        else:
            times = self.most
            reach = staying(text.end_place() + 1)
        reaches = [reach]
        while times > 0:
            times -= 1
            reach = self.one_time_before(times, reach)
            reaches.append(reach)
        self.reach_after = list(reversed(reaches))
        self.reach = self.reach_after[0]

    def one_time_before(self, times, reach):
        """The reach when so many times are done, from that of when one more is."""
        further = one_behind_other(self.body.reach, reach)
        if times < self.least:
            return further
        # A time that ends where it began is none here, but without it one comes just as far.
        return [places | only(place) for (place, places) in enumerate(further)]

    def wanted_next(self, times, place, targets):
        """Where one time more may come to from the place; 0 if it's time to stop."""
        if times == self.most:
            return 0
        after = min(times + 1, len(self.reach_after) - 1)
        wanted = leading_to(targets, self.reach_after[after], self.body.reach[place])
        if times < self.least:
            return wanted
        return without(wanted, only(place))

    def follow(self, place, targets, captures):
        times = 0
        last = None
        wanted = self.wanted_next(times, place, targets)
        while wanted:
            # The same once more would capture the same once more, and there may be many times within many.
            if last != (place, wanted):
                last = (place, wanted)
                place = self.body.follow(place, wanted, captures)
            times += 1
            wanted = self.wanted_next(times, place, targets)
        return place


class Capture:
    """A body whose begin and end are noted under the number of a name."""

    def __init__(self, number, body):
        self.number = number
        self.body = body
        self.reach = []

    def measure(self, text):
        self.body.measure(text)
        self.reach = self.body.reach

    def follow(self, place, targets, captures):
        end = self.body.follow(place, targets, captures)
        captures[self.number] = (place, end)
        return end


def row_of(steps):
    """A step by itself needs no row: so parts lie less deep in one another."""
    if len(steps) == 1:
        return steps[0]
    return Row(steps)


def choice_of(rows):
    if len(rows) == 1:
        return rows[0]
    return Choice(rows)
