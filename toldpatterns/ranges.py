"""Ranges of scalar values: each a first and a last one, both within it."""

GREATEST = 0x10FFFF

# What d, w and s have behind a backslash, from the lowest range to the highest.
LISTED_RANGES = {
    "d": ((0x30, 0x39),),
    "w": ((0x30, 0x39), (0x41, 0x5A), (0x5F, 0x5F), (0x61, 0x7A)),
    "s": ((0x09, 0x0D), (0x20, 0x20)),
}


def every_value():
    return [(0, GREATEST)]


def just_one(value):
    return [(value, value)]


def is_just_one(ranges):
    return ranges[0][0] == ranges[-1][1]


def all_but(ranges):
    """The ranges between these ones, which go from the lowest to the highest and don't touch."""
    others = []
    first = 0
    for (lowest, highest) in ranges:
        if first < lowest:
            others.append((first, lowest - 1))
        first = highest + 1
    others.append((first, GREATEST))
    return others


def listed_ranges(sign):
    """What one of the signs d w s D W S has."""
    if sign in LISTED_RANGES:
        return list(LISTED_RANGES[sign])
    return all_but(LISTED_RANGES[sign.lower()])


def have_value(ranges, value):
    for (lowest, highest) in ranges:
        if lowest <= value <= highest:
            return True
    return False


def is_word_value(value):
    return have_value(LISTED_RANGES["w"], value)
