"""The calls: each answers a list of whole numbers, a refusal or what was asked."""

from toldpatterns.faults import Fault
from toldpatterns.reading import read_names

LONGEST_PATTERN = 128

TOO_LONG = -2
NOT_IN_FORM = -6
NOT_THERE = -4


def judge(p):
    """How many names the pattern has, or -6 and its fault's kind and place."""
    if len(p) > LONGEST_PATTERN:
        return [TOO_LONG]
    try:
        names = read_names(p)
    except Fault as fault:
        return [NOT_IN_FORM, fault.kind, fault.place]
    return [len(names)]


def name(k, p):
    """0, then where in the pattern name k begins, and its length."""
    if len(p) > LONGEST_PATTERN:
        return [TOO_LONG]
    try:
        names = read_names(p)
    except Fault:
        return [NOT_IN_FORM]
    if k < 0 or k >= len(names):
        return [NOT_THERE]
    return [0, names[k][0], names[k][1]]
