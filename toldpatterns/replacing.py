"""A replacing text: its steps are read from the front, then each match makes its bytes from them.

A match's spans are here its own one, which is number 0, and then its names', two places in bytes each.
"""

from toldpatterns.reading import NAME_SIGNS
from toldpatterns.refusals import NO_SUCH_REFERENCE, Refusal

DOLLAR = 36
NOUGHT = 48


class PlainByte:
    """A byte that stands for itself."""

    def __init__(self, byte):
        self.byte = byte

    def made_bytes(self, given, spans):
        return [self.byte]


class Reference:
    """What one of a match's spans has of the text."""

    def __init__(self, number):
        self.number = number

    def made_bytes(self, given, spans):
        # Where nothing was captured the span is -1 and -1, and between these there's nothing either.
        return given[spans[2 * self.number]:spans[2 * self.number + 1]]


def name_end(given, place):
    """The place behind all the signs of names that stand from the place on."""
    signs = [ord(sign) for sign in NAME_SIGNS]
    while place < len(given) and given[place] in signs:
        place += 1
    return place


def step_end(given, place):
    """The place behind the step that begins at this one."""
    if given[place] != DOLLAR:
        return place + 1
    if given[place + 1:place + 2] in ([DOLLAR], [NOUGHT]):
        return place + 2
    return name_end(given, place + 1)


def step_of(piece, names):
    """The step that these bytes are; None if they are a $ and what can't stand behind it."""
    if piece[0] != DOLLAR or piece == [DOLLAR, DOLLAR]:
        return PlainByte(piece[0])
    if piece == [DOLLAR, NOUGHT]:
        return Reference(0)
    if piece[1:] in names:
        return Reference(1 + names.index(piece[1:]))
    return None


def read_replacing(given, names):
    """The steps of a replacing text; the first $ that stands for nothing is refused."""
    steps = []
    place = 0
    while place < len(given):
        end = step_end(given, place)
        step = step_of(given[place:end], names)
        if step is None:
            raise Refusal([NO_SUCH_REFERENCE, place])
        steps.append(step)
        place = end
    return steps


def replaced(given, matches, steps):
    """The text's bytes with all matches, of each of which the spans are told, replaced by the steps."""
    made = []
    done = 0
    for spans in matches:
        made.extend(given[done:spans[0]])
        for step in steps:
            made.extend(step.made_bytes(given, spans))
        done = spans[1]
    made.extend(given[done:])
    return made
