"""Reads a pattern from the front, up to its first fault."""

from toldpatterns.faults import CANNOT_STAND, ENDS_IN_WRONG_ORDER, ENDS_TOO_SOON, NAME_REFUSED
from toldpatterns.faults import NUMBER_OUT_OF_RANGE, TOO_MANY_ATOMS, TOO_MANY_OPEN, Fault
from toldpatterns.parts import Capture, OneValue, Repetition, Standpoint, choice_of, row_of
from toldpatterns.ranges import every_value, is_just_one, just_one, listed_ranges
from toldpatterns.scalars import scalar_at

MOST_TIMES = 20
MOST_NAMES = 16
LONGEST_NAME = 32
MOST_OPEN = 40
MOST_ATOMS = 200

FIGURES = "0123456789"
SMALL_LETTERS = "abcdefghijklmnopqrstuvwxyz"
NAME_SIGNS = "abcdefghijklmnopqrstuvwxyz0123456789_"

# The scalar values that are not plain.
SIGNS = "|*+?{}.^$\\[]()<>"
SET_SIGNS = "\\][-^"

# What may stand behind a backslash: as an end of a part, as a part, and outside sets.
END_ESCAPES = "|*+?{}.^$\\[]()<>-nt"
PART_ESCAPES = "|*+?{}.^$\\[]()<>-ntdwsDWS"
ATOM_ESCAPES = "|*+?{}.^$\\[]()<>-ntdwsDWSb"

LISTED_ESCAPES = "dwsDWS"
CONTROL_VALUES = {"n": 10, "t": 9}

# The least and the most times that a sign of repetition stands for; None: no bound.
REPETITIONS = {"*": (0, None), "+": (1, None), "?": (0, 1)}


def escape_ranges(sign):
    """What the sign behind a backslash stands for, if that's values."""
    if sign in LISTED_ESCAPES:
        return listed_ranges(sign)
    return just_one(CONTROL_VALUES.get(sign, ord(sign)))


def names_in(given, spots):
    """The names that stand in a pattern's bytes, each at a place and of a length."""
    return [given[place:place + length] for (place, length) in spots]


class Pattern:
    """A pattern without a fault: where its names stand, and what it is made of."""

    def __init__(self, names, body):
        # The first byte's place and the length of each, in the order of their opening signs.
        self.names = names
        self.body = body


class Bracket:
    """An open bracket, or the outside of them all: what closes it, its rows yet, and its atoms written out."""

    def __init__(self, closing, number):
        self.closing = closing
        # That of its name; None if it has none.
        self.number = number
        self.rows = [[]]
        self.atoms = 0
        # How many atoms the last step has, written out; None: no sign of repetition may come now.
        self.last_atoms = None

    def add_atom(self, part, atoms):
        self.rows[-1].append(part)
        self.atoms += atoms
        self.last_atoms = atoms

    def repeat_atom(self, least, most):
        times = most
        if most is None:
            times = max(least, 1)
        body = self.rows[-1].pop()
        self.rows[-1].append(Repetition(body, least, most))
        self.atoms += (times - 1) * self.last_atoms
        self.last_atoms = None

    def end_row(self):
        self.rows.append([])
        self.last_atoms = None

    def made_part(self):
        """The part of the pattern that it has become, when it's closed."""
        choice = choice_of([row_of(steps) for steps in self.rows])
        if self.number is None:
            return choice
        return Capture(self.number, choice)


class Reader:
    """Stands at a place in a pattern that has no fault before it."""

    def __init__(self, given):
        self.given = given
        self.place = 0
        self.names = []
        # Nothing closes the outside.
        self.brackets = [Bracket("", None)]

    def need_byte(self):
        if self.place == len(self.given):
            raise Fault(ENDS_TOO_SOON, self.place)

    def at(self, signs):
        """Whether the next byte is one of these signs."""
        return self.place < len(self.given) and self.given[self.place] in [ord(sign) for sign in signs]

    def take(self, signs):
        """Goes behind the next byte, which has to be one of these signs, and tells which."""
        self.need_byte()
        for sign in signs:
            if self.given[self.place] == ord(sign):
                self.place += 1
                return sign
        raise Fault(CANNOT_STAND, self.place)

    def take_plain(self, barred):
        """Goes behind the next scalar value, which has to be none of the barred signs."""
        self.need_byte()
        if self.at(barred):
            raise Fault(CANNOT_STAND, self.place)
        found = scalar_at(self.given, self.place)
        self.place = found[1]
        return just_one(found[0])

    def take_escape(self, escapes):
        self.take("\\")
        return self.take(escapes)

    def take_one(self, escapes):
        """Goes behind a plain value of sets or an escape; the values it has."""
        if self.at("\\"):
            return escape_ranges(self.take_escape(escapes))
        return self.take_plain(SET_SIGNS)

    def take_part(self):
        first_place = self.place
        first = self.take_one(PART_ESCAPES)
        if not is_just_one(first) or not self.at("-"):
            return first
        self.take("-")
        last = self.take_one(END_ESCAPES)
        if first[0][0] > last[0][1]:
            raise Fault(ENDS_IN_WRONG_ORDER, first_place)
        return [(first[0][0], last[0][1])]

    def take_set(self):
        self.take("[")
        inverted = self.at("^")
        if inverted:
            self.take("^")
        ranges = self.take_part()
        while not self.at("]"):
            ranges = ranges + self.take_part()
        self.take("]")
        return OneValue(ranges, inverted)

    def take_escaped_atom(self):
        sign = self.take_escape(ATOM_ESCAPES)
        if sign == "b":
            return Standpoint(sign)
        return OneValue(escape_ranges(sign), False)

    def take_single_atom(self):
        if self.at("["):
            return self.take_set()
        if self.at("\\"):
            return self.take_escaped_atom()
        if self.at("^$"):
            return Standpoint(self.take("^$"))
        if self.at("."):
            self.take(".")
            return OneValue(every_value(), False)
        return OneValue(self.take_plain(SIGNS), False)

    def take_number(self, least):
        first_place = self.place
        number = int(self.take(FIGURES))
        # A nought in front is the whole number: what is behind it is none of its figures.
        while number > 0 and self.at(FIGURES):
            number = number * 10 + int(self.take(FIGURES))
        self.need_byte()
        if number < least or number > MOST_TIMES:
            raise Fault(NUMBER_OUT_OF_RANGE, first_place)
        return number

    def take_braces(self):
        """The least and the most times that they stand for; None: no bound."""
        self.take("{")
        least = self.take_number(0)
        if self.take(",}") == "}":
            return (least, least)
        if self.at("}"):
            self.take("}")
            return (least, None)
        most = self.take_number(least)
        self.take("}")
        return (least, most)

    def take_times(self):
        if self.at("{"):
            return self.take_braces()
        return REPETITIONS[self.take("*+?")]

    def take_repetition(self):
        if self.brackets[-1].last_atoms is None:
            raise Fault(CANNOT_STAND, self.place)
        times = self.take_times()
        self.brackets[-1].repeat_atom(times[0], times[1])

    def keep_name(self, first_place):
        length = self.place - first_place
        taken = names_in(self.given, self.names)
        known = self.given[first_place:self.place] in taken
        if known or length > LONGEST_NAME or len(taken) == MOST_NAMES:
            raise Fault(NAME_REFUSED, first_place)
        self.names.append((first_place, length))

    def take_name(self):
        first_place = self.place
        self.take(SMALL_LETTERS)
        while self.at(NAME_SIGNS):
            self.take(NAME_SIGNS)
        # A name is whole only when a byte stands behind it.
        self.need_byte()
        self.keep_name(first_place)
        self.take(" ")

    def take_opening(self):
        # The outside, which is no open bracket, is one of the brackets.
        if len(self.brackets) - 1 == MOST_OPEN:
            raise Fault(TOO_MANY_OPEN, self.place)
        if self.take("(<") == "(":
            self.brackets.append(Bracket(")", None))
            return
        self.take_name()
        self.brackets.append(Bracket(">", len(self.names) - 1))

    def take_closing(self):
        self.take(self.brackets[-1].closing)
        closed = self.brackets.pop()
        self.brackets[-1].add_atom(closed.made_part(), closed.atoms)

    def take_next(self):
        """Goes behind the next sign, single atom or repetition."""
        if self.at("|"):
            self.take("|")
            self.brackets[-1].end_row()
        elif self.at("(<"):
            self.take_opening()
        elif self.at(")>"):
            self.take_closing()
        elif self.at("*+?{"):
            self.take_repetition()
        else:
            self.brackets[-1].add_atom(self.take_single_atom(), 1)

    def made_pattern(self):
        """The pattern, when there's nothing behind the place."""
        if len(self.brackets) > 1:
            raise Fault(ENDS_TOO_SOON, self.place)
        if self.brackets[0].atoms > MOST_ATOMS:
            raise Fault(TOO_MANY_ATOMS, 0)
        return Pattern(self.names, self.brackets[0].made_part())


def read_pattern(given):
    """The pattern that the bytes are; if they are none, its first fault is raised."""
    reader = Reader(given)
    while reader.place < len(given):
        reader.take_next()
    return reader.made_pattern()
