"""Places of a text, many at once: a whole number that has bit i for place i.

A reach tells for each place, in a list, to which places a part of a pattern has ways from there.
"""


def only(place):
    return 1 << place


def has_place(places, place):
    return (places >> place) & 1 == 1


def lowest_place(places):
    return (places & -places).bit_length() - 1


def highest_place(places):
    return places.bit_length() - 1


def without(places, taken):
    return places & ~taken


def staying(count):
    """The reach of what ends where it began."""
    return [only(place) for place in range(count)]


def reached_from(places, reach):
    """Where one comes to by the reach from any of the places."""
    reached = 0
    while places:
        highest = places.bit_length() - 1
        reached |= reach[highest]
        places ^= 1 << highest
    return reached


def one_behind_other(reach, next_reach):
    return [reached_from(places, next_reach) for places in reach]


def any_times_onward(reach):
    """The reach of going on by the one given, any number of times, each time to a later place."""
    closed = staying(len(reach))
    for place in range(len(reach) - 1, -1, -1):
        todo = without(reach[place], closed[place])
        while todo:
            # All that the lowest one comes to is taken with it, and needn't be gone through by itself.
            closed[place] |= closed[lowest_place(todo)]
            todo = without(todo, closed[place])
    return closed


def leading_to(targets, reach, places):
    """Those of the places from which the reach has one of the targets."""
    if places == 0:
        return 0
    leading = 0
    # No reach goes back, so from behind the last target there's none.
    last = min(highest_place(places), highest_place(targets))
    for place in range(lowest_place(places), last + 1):
        if reach[place] & targets:
            leading |= 1 << place
    return leading & places
