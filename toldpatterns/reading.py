"""Reads a pattern from the front, up to its first fault."""

from toldpatterns.faults import CANNOT_STAND, ENDS_IN_WRONG_ORDER, ENDS_TOO_SOON, NAME_REFUSED
from toldpatterns.faults import NUMBER_OUT_OF_RANGE, TOO_MANY_ATOMS, TOO_MANY_OPEN, Fault
from toldpatterns.scalars import scalar_at

MOST_TIMES = 20
MOST_NAMES = 16
LONGEST_NAME = 32
MOST_OPEN = 40
MOST_ATOMS = 200

FIGURES = "0123456789"
SMALL_LETTERS = "abcdefghijklmnopqrstuvwxyz"
NAME_SIGNS = "abcdefghijklmnopqrstuvwxyz0123456789_"

# The scalar values that are not plain.
SIGNS = "|*+?{}.^$\\[]()<>"
SET_SIGNS = "\\][-^"

# What may stand behind a backslash: as an end of a part, as a part, and outside sets.
END_ESCAPES = "|*+?{}.^$\\[]()<>-nt"
PART_ESCAPES = "|*+?{}.^$\\[]()<>-ntdwsDWS"
ATOM_ESCAPES = "|*+?{}.^$\\[]()<>-ntdwsDWSb"

VALUELESS_ESCAPES = "dwsDWSb"
CONTROL_VALUES = {"n": 10, "t": 9}


def escape_value(sign):
    """The one scalar value that the sign behind a backslash stands for; None if it's not one."""
    if sign in VALUELESS_ESCAPES:
        return None
    return CONTROL_VALUES.get(sign, ord(sign))


class Bracket:
    """An open bracket, or the outside of them all: what closes it, and its atoms written out."""

    def __init__(self, closing):
        self.closing = closing
        self.atoms = 0
        # None: no sign of repetition may come now.
        self.last_atom = None

    def add_atom(self, atoms):
        self.atoms += atoms
        self.last_atom = atoms

    def repeat_atom(self, times):
        self.atoms += (times - 1) * self.last_atom
        self.last_atom = None

    def end_row(self):
        self.last_atom = None


class Reader:
    """Stands at a place in a pattern that has no fault before it."""

    def __init__(self, given):
        self.given = given
        self.place = 0
        self.names = []
        # Nothing closes the outside.
        self.brackets = [Bracket("")]

    def need_byte(self):
        if self.place == len(self.given):
            raise Fault(ENDS_TOO_SOON, self.place)

    def at(self, signs):
        """Whether the next byte is one of these signs."""
        return self.place < len(self.given) and self.given[self.place] in [ord(sign) for sign in signs]

    def take(self, signs):
        """Goes behind the next byte, which has to be one of these signs, and tells which."""
        self.need_byte()
        for sign in signs:
            if self.given[self.place] == ord(sign):
                self.place += 1
                return sign
        raise Fault(CANNOT_STAND, self.place)

    def take_plain(self, barred):
        """Goes behind the next scalar value, which has to be none of the barred signs."""
        self.need_byte()
        if self.at(barred):
            raise Fault(CANNOT_STAND, self.place)
        found = scalar_at(self.given, self.place)
        self.place = found[1]
        return found[0]

    def take_escape(self, escapes):
        self.take("\\")
        return escape_value(self.take(escapes))

    def take_one(self, escapes):
        """Goes behind a plain value of sets or an escape; its value, or None if it's not one."""
        if self.at("\\"):
            return self.take_escape(escapes)
        return self.take_plain(SET_SIGNS)

    def take_part(self):
        first_place = self.place
        first = self.take_one(PART_ESCAPES)
        if first is not None and self.at("-"):
            self.take("-")
            if first > self.take_one(END_ESCAPES):
                raise Fault(ENDS_IN_WRONG_ORDER, first_place)

    def take_set(self):
        self.take("[")
        if self.at("^"):
            self.take("^")
        self.take_part()
        while not self.at("]"):
            self.take_part()
        self.take("]")

    def take_single_atom(self):
        if self.at("["):
            self.take_set()
        elif self.at("\\"):
            self.take_escape(ATOM_ESCAPES)
        elif self.at(".^$"):
            self.take(".^$")
        else:
            self.take_plain(SIGNS)

    def take_number(self, least):
        first_place = self.place
        number = int(self.take(FIGURES))
        # A nought in front is the whole number: what is behind it is none of its figures.
        while number > 0 and self.at(FIGURES):
            number = number * 10 + int(self.take(FIGURES))
        self.need_byte()
        if number < least or number > MOST_TIMES:
            raise Fault(NUMBER_OUT_OF_RANGE, first_place)
        return number

    def take_braces(self):
        """How many times the atom before them stands there when it's written out."""
        self.take("{")
        least = self.take_number(0)
        if self.take(",}") == "}":
            return least
        if self.at("}"):
            self.take("}")
            return max(least, 1)
        most = self.take_number(least)
        self.take("}")
        return most

    def take_repetition(self):
        if self.brackets[-1].last_atom is None:
            raise Fault(CANNOT_STAND, self.place)
        times = 1
        if self.at("{"):
            times = self.take_braces()
        else:
            self.take("*+?")
        self.brackets[-1].repeat_atom(times)

    def keep_name(self, first_place):
        length = self.place - first_place
        taken = [self.given[place:place + size] for (place, size) in self.names]
        known = self.given[first_place:self.place] in taken
        if known or length > LONGEST_NAME or len(taken) == MOST_NAMES:
            raise Fault(NAME_REFUSED, first_place)
        self.names.append((first_place, length))

    def take_name(self):
        first_place = self.place
        self.take(SMALL_LETTERS)
        while self.at(NAME_SIGNS):
            self.take(NAME_SIGNS)
        # A name is whole only when a byte stands behind it.
        self.need_byte()
        self.keep_name(first_place)
        self.take(" ")

    def take_opening(self):
        # The outside, which is no open bracket, is one of the brackets.
        if len(self.brackets) - 1 == MOST_OPEN:
            raise Fault(TOO_MANY_OPEN, self.place)
        closing = ")"
        if self.take("(<") == "<":
            self.take_name()
            closing = ">"
        self.brackets.append(Bracket(closing))

    def take_closing(self):
        self.take(self.brackets[-1].closing)
        closed = self.brackets.pop()
        self.brackets[-1].add_atom(closed.atoms)

    def take_next(self):
        """Goes behind the next sign, single atom or repetition."""
        if self.at("|"):
            self.take("|")
            self.brackets[-1].end_row()
        elif self.at("(<"):
            self.take_opening()
        elif self.at(")>"):
            self.take_closing()
        elif self.at("*+?{"):
            self.take_repetition()
        else:
            self.take_single_atom()
            self.brackets[-1].add_atom(1)

    def finish(self):
        if len(self.brackets) > 1:
            raise Fault(ENDS_TOO_SOON, self.place)
        if self.brackets[0].atoms > MOST_ATOMS:
            raise Fault(TOO_MANY_ATOMS, 0)


def read_names(given):
    """The first byte's place and the length of each name of a pattern, in their order."""
    reader = Reader(given)
    while reader.place < len(given):
        reader.take_next()
    reader.finish()
    return reader.names
