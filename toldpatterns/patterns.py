"""The calls: each answers a list of whole numbers, a refusal or what was asked."""

from toldpatterns.faults import Fault
from toldpatterns.matching import Search
from toldpatterns.reading import names_in, read_pattern
from toldpatterns.refusals import NO_PLACE, NOT_IN_FORM, NOT_THERE, TOO_LARGE, TOO_LONG, Refusal
from toldpatterns.replacing import read_replacing, replaced
from toldpatterns.texts import Text

LONGEST = 128
LARGEST_MADE = 8192


def judge(p):
    """How many names the pattern has, or -6 and its fault's kind and place."""
    if len(p) > LONGEST:
        return [TOO_LONG]
    try:
        pattern = read_pattern(p)
    except Fault as fault:
        return [NOT_IN_FORM, fault.kind, fault.place]
    return [len(pattern.names)]


def name(k, p):
    """0, then where in the pattern name k begins, and its length."""
    if len(p) > LONGEST:
        return [TOO_LONG]
    try:
        names = read_pattern(p).names
    except Fault:
        return [NOT_IN_FORM]
    if k < 0 or k >= len(names):
        return [NOT_THERE]
    return [0, names[k][0], names[k][1]]


def search_of(p, t):
    """The search for a pattern in a text; what is too long or not in form is refused."""
    if len(p) > LONGEST or len(t) > LONGEST:
        raise Refusal([TOO_LONG])
    try:
        return Search(read_pattern(p), Text(t))
    except Fault:
        raise Refusal([NOT_IN_FORM]) from None


def whole(p, t):
    """1 and the names' spans, if the pattern has a way through all of the text, else 0."""
    try:
        search = search_of(p, t)
    except Refusal as refusal:
        return refusal.answer
    end = search.text.end_place()
    if not search.comes_to(0, end):
        return [0]
    return [1] + search.captures(0, end)


def find(from_byte, p, t):
    """1 and the spans of the first match not before the byte and of its names, or 0 if there's none."""
    try:
        search = search_of(p, t)
    except Refusal as refusal:
        return refusal.answer
    if from_byte not in search.text.first_bytes:
        return [NO_PLACE]
    found = search.first_match(search.text.first_bytes.index(from_byte))
    if found is None:
        return [0]
    return [1] + search.spans(found[0], found[1])


def all_of(p, t):
    """How many matches there are one behind another, then their spans."""
    try:
        places = search_of(p, t).all_places()
    except Refusal as refusal:
        return refusal.answer
    return [len(places) // 2] + places


def put(p, t, r):
    """0 and the text's bytes with all matches replaced by what r makes of them."""
    if len(r) > LONGEST:
        return [TOO_LONG]
    try:
        search = search_of(p, t)
        steps = read_replacing(r, names_in(p, search.pattern.names))
    except Refusal as refusal:
        return refusal.answer
    made = replaced(t, [search.spans(begin, end) for (begin, end) in search.all_matches()], steps)
    if len(made) > LARGEST_MADE:
        return [TOO_LARGE]
    return [0] + made


def split(p, t):
    """How many parts there are before, between and behind the matches, then their spans."""
    try:
        places = search_of(p, t).all_places()
    except Refusal as refusal:
        return refusal.answer
    return [len(places) // 2 + 1, 0] + places + [len(t)]
