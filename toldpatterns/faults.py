"""What keeps bytes from being a pattern: a kind and a place."""

ENDS_TOO_SOON = 1
CANNOT_STAND = 2
NUMBER_OUT_OF_RANGE = 3
NAME_REFUSED = 4
TOO_MANY_OPEN = 5
ENDS_IN_WRONG_ORDER = 6
TOO_MANY_ATOMS = 7


class Fault(Exception):
    """The first fault from the front."""

    def __init__(self, kind, place):
        self.kind = kind
        self.place = place
