"""The calls: each answers a list of whole numbers, a refusal or what was asked."""

from toldpatterns.faults import Fault
from toldpatterns.matching import Search
from toldpatterns.reading import read_pattern
from toldpatterns.texts import Text

LONGEST = 128

TOO_LONG = -2
NOT_IN_FORM = -6
NOT_THERE = -4
NO_PLACE = -1


def judge(p):
    """How many names the pattern has, or -6 and its fault's kind and place."""
    if len(p) > LONGEST:
        return [TOO_LONG]
    try:
        pattern = read_pattern(p)
    except Fault as fault:
        return [NOT_IN_FORM, fault.kind, fault.place]
    return [len(pattern.names)]


def name(k, p):
    """0, then where in the pattern name k begins, and its length."""
    if len(p) > LONGEST:
        return [TOO_LONG]
    try:
        names = read_pattern(p).names
    except Fault:
        return [NOT_IN_FORM]
    if k < 0 or k >= len(names):
        return [NOT_THERE]
    return [0, names[k][0], names[k][1]]


def whole(p, t):
    """1 and the names' spans, if the pattern has a way through all of the text, else 0."""
    if len(p) > LONGEST or len(t) > LONGEST:
        return [TOO_LONG]
    try:
        search = Search(read_pattern(p), Text(t))
    except Fault:
        return [NOT_IN_FORM]
    end = search.text.end_place()
    if not search.comes_to(0, end):
        return [0]
    return [1] + search.captures(0, end)


def find(from_byte, p, t):
    """1 and the spans of the first match not before the byte and of its names, or 0 if there's none."""
    if len(p) > LONGEST or len(t) > LONGEST:
        return [TOO_LONG]
    try:
        search = Search(read_pattern(p), Text(t))
    except Fault:
        return [NOT_IN_FORM]
    if from_byte not in search.text.first_bytes:
        return [NO_PLACE]
    begin = search.first_begin(search.text.first_bytes.index(from_byte))
    if begin is None:
        return [0]
    end = search.match_end(begin)
    return [1] + search.text.in_bytes(begin, end) + search.captures(begin, end)
