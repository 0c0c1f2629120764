"""Scalar values in UTF-8: 0 to D7FF and E000 to 10FFFF, each in as few bytes as it takes."""

from toldpatterns.faults import CANNOT_STAND, ENDS_TOO_SOON, Fault

# What a first byte has above its share of the value, by how many bytes follow it.
FIRST_BYTE_MARKS = (0, 0xC0, 0xE0, 0xF0)

# Behind these first bytes the second one's range is narrower: below it the value
# would go into fewer bytes, above it lie D800 to DFFF and what is above 10FFFF.
LOWEST_SECOND = {0xE0: 0xA0, 0xF0: 0x90}
HIGHEST_SECOND = {0xED: 0x9F, 0xF4: 0x8F}


def following_bytes(first):
    """How many bytes follow this first one; -1 if no scalar value begins with it."""
    if first <= 0x7F:
        return 0
    if 0xC2 <= first <= 0xDF:
        return 1
    if 0xE0 <= first <= 0xEF:
        return 2
    if 0xF0 <= first <= 0xF4:
        return 3
    return -1


def scalar_at(given, place):
    """The scalar value whose first byte is at the place, and the place behind its bytes."""
    first = given[place]
    following = following_bytes(first)
    if following < 0:
        raise Fault(CANNOT_STAND, place)
    value = first - FIRST_BYTE_MARKS[following]
    behind = place + 1 + following
    lowest = LOWEST_SECOND.get(first, 0x80)
    highest = HIGHEST_SECOND.get(first, 0xBF)
    for at in range(place + 1, behind):
        if at == len(given):
            raise Fault(ENDS_TOO_SOON, at)
        if given[at] < lowest or given[at] > highest:
            raise Fault(CANNOT_STAND, at)
        value = value * 64 + given[at] - 0x80
        lowest = 0x80
        highest = 0xBF
    return (value, behind)
