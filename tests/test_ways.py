"""The calls against the document's ways themselves: all of them gone through, in their order."""

import itertools
import random
import unittest

from toldpatterns.patterns import all_of, find, judge, put, split, whole

MOST_WAYS = 20000

# Atoms as they are written, and which values of the texts below they have.
TEXT_VALUES = "ab_ \n\u00e9\U0001f600"
ONES = {
    "a": "a", "b": "b", "\u00e9": "\u00e9", ".": TEXT_VALUES, "[ab]": "ab", "[^a]": "b_ \n\u00e9\U0001f600",
    "\\w": "ab_", "\\W": " \n\u00e9\U0001f600", "\\s": " \n", "[^\\Sa]": " \n", "[_-\u00e9]": "_ab\u00e9", "\\n": "\n",
}
TIMES = {
    "*": (0, None), "+": (1, None), "?": (0, 1), "{0}": (0, 0), "{1}": (1, 1), "{2}": (2, 2), "{0,}": (0, None),
    "{2,}": (2, None), "{0,2}": (0, 2), "{1,2}": (1, 2), "{2,3}": (2, 3), "{0,0}": (0, 0), "{3}": (3, 3),
}


class TooMany(Exception):
    pass


class Ways:
    """The ways through one text, made one by one."""

    def __init__(self, text):
        self.text = text
        self.made = 0

    def through(self, part, place, captured):
        self.made += 1
        if self.made > MOST_WAYS:
            raise TooMany
        return getattr(self, "through_" + part[0])(part, place, captured)

    def through_one(self, part, place, captured):
        if place < len(self.text) and self.text[place] in ONES[part[1]]:
            yield (place + 1, captured)

    def through_stand(self, part, place, captured):
        before = place > 0 and self.text[place - 1] in ONES["\\w"]
        behind = place < len(self.text) and self.text[place] in ONES["\\w"]
        if {"^": place == 0, "$": place == len(self.text), "\\b": before != behind}[part[1]]:
            yield (place, captured)

    def through_row(self, part, place, captured):
        if not part[1]:
            yield (place, captured)
            return
        for (then, more) in self.through(part[1][0], place, captured):
            yield from self.through(("row", part[1][1:]), then, more)

    def through_rows(self, part, place, captured):
        for row in part[1]:
            yield from self.through(row, place, captured)

    def through_times(self, part, place, captured):
        (least, most) = TIMES[part[2]]
        yield from self.once_more(part[1], least, most, 0, place, captured)

    def once_more(self, body, least, most, gone, place, captured):
        if most is None or gone < most:
            for (then, more) in self.through(body, place, captured):
                if then != place or gone < least:
                    yield from self.once_more(body, least, most, gone + 1, then, more)
        if gone >= least:
            yield (place, captured)

    def through_name(self, part, place, captured):
        for (end, more) in self.through(part[2], place, captured):
            changed = dict(more)
            changed[part[1]] = (place, end)
            yield (end, changed)


def written(part):
    if part[0] in ("one", "stand"):
        return part[1]
    if part[0] == "row":
        return "".join(written(item) for item in part[1])
    if part[0] == "rows":
        return "(" + "|".join(written(row) for row in part[1]) + ")"
    if part[0] == "times":
        return written(part[1]) + part[2]
    # The name's own brackets do for the rows within it.
    return "<" + part[1] + " " + written(part[2])[1:-1] + ">"


def some_rows(chance, depth, names):
    rows = []
    for number in range(chance.choice((1, 1, 2, 2, 3))):
        items = [some_item(chance, depth, names) for count in range(chance.choice((0, 1, 1, 2, 2, 3)))]
        rows.append(("row", items))
    return ("rows", rows)


def some_item(chance, depth, names):
    kind = chance.random()
    if depth == 0 or kind < 0.35:
        atom = ("one", chance.choice(["a", "a", "b"] + sorted(ONES)))
    elif kind < 0.45:
        atom = ("stand", chance.choice(("^", "$", "\\b")))
    elif kind < 0.7:
        atom = some_rows(chance, depth - 1, names)
    else:
        name = "n%d" % len(names)
        names.append(name)
        atom = ("name", name, some_rows(chance, depth - 1, names))
    if chance.random() < 0.5:
        return ("times", atom, chance.choice(["*", "+", "?"] + sorted(TIMES)))
    return atom


def span(text, captured, name):
    (begin, end) = captured.get(name, (None, None))
    if begin is None:
        return [-1, -1]
    return [len(text[:begin].encode()), len(text[:end].encode())]


def spans(text, captured, names):
    return [place for name in names for place in span(text, captured, name)]


def told_match(part, text, place):
    """What the first match from the place on captures, its own span under no name; None if there's none."""
    for begin in range(place, len(text) + 1):
        firsts = {}
        for (end, captured) in Ways(text).through(part, begin, {}):
            firsts.setdefault(end, captured)
        if firsts:
            return {**firsts[max(firsts)], "": (begin, max(firsts))}
    return None


def told_matches(part, text):
    place = 0
    last_end = None
    while place <= len(text):
        captured = told_match(part, text, place)
        if captured is None:
            return
        (begin, end) = captured[""]
        if begin == end:
            place = end + 1
        else:
            place = end
        if begin < end or begin != last_end:
            last_end = end
            yield captured


def told_whole(part, text, names):
    for (end, captured) in Ways(text).through(part, 0, {}):
        if end == len(text):
            return [1] + spans(text, captured, names)
    return [0]


def told_find(part, text, names, place):
    captured = told_match(part, text, place)
    if captured is None:
        return [0]
    return [1] + spans(text, captured, [""] + names)


def told_all(matches, text):
    return [len(matches)] + [place for captured in matches for place in span(text, captured, "")]


def told_split(matches, text):
    ends = [0] + [captured[""][1] for captured in matches]
    begins = [captured[""][0] for captured in matches] + [len(text)]
    parts = [span(text, {"": part}, "") for part in zip(ends, begins)]
    return [len(parts)] + [place for part in parts for place in part]


def replacing_of(names):
    """All of a match, then what each name captured, in order."""
    return "<$0" + "".join(",$" + name for name in names) + ">"


def told_put(matches, text, names):
    made = ""
    place = 0
    for captured in matches:
        (begin, end) = captured[""]
        one_by_one = [captured.get(name, (0, 0)) for name in [""] + names]
        made += text[place:begin] + "<" + ",".join(text[first:last] for (first, last) in one_by_one) + ">"
        place = end
    return [0] + list((made + text[place:]).encode())


class AllWays(unittest.TestCase):

    def agree(self, part, names, text):
        """Whether they could be compared: there may be too many ways for that, or too many atoms."""
        pattern = list(written(part)[1:-1].encode())
        given = list(text.encode())
        if judge(pattern) != [len(names)]:
            return False
        try:
            expected = [told_whole(part, text, names)]
            expected += [told_find(part, text, names, place) for place in range(len(text) + 1)]
            matches = list(told_matches(part, text))
            expected += [told_all(matches, text), told_put(matches, text, names), told_split(matches, text)]
        except TooMany:
            return False
        answers = [whole(pattern, given)]
        answers += [find(len(text[:place].encode()), pattern, given) for place in range(len(text) + 1)]
        answers += [all_of(pattern, given), put(pattern, given, list(replacing_of(names).encode()))]
        answers += [split(pattern, given)]
        self.assertEqual(answers, expected, (bytes(pattern), text))
        return True

    def test_patterns_of_all_kinds(self):
        chance = random.Random(1)
        compared = 0
        for number in range(2500):
            names = []
            part = some_rows(chance, 3, names)
            text = "".join(chance.choice("aaabb" + TEXT_VALUES) for count in range(chance.randrange(6)))
            compared += self.agree(part, names, text)
        self.assertGreater(compared, 1500)

    def test_all_repetitions_within_one_another(self):
        a = ("one", "a")
        bodies = (
            ("rows", [("row", []), ("row", [a])]), ("rows", [("row", [a]), ("row", [])]),
            ("rows", [("row", [a, a]), ("row", [a])]), ("rows", [("row", [("stand", "^")]), ("row", [a])]),
            ("rows", [("row", [])]),
        )
        compared = 0
        for (body, inner, outer) in itertools.product(bodies, TIMES, TIMES):
            named = ("name", "y", ("rows", [("row", [("times", ("name", "x", body), inner)])]))
            part = ("rows", [("row", [("times", named, outer)])])
            for text in ("", "a", "aaa"):
                compared += self.agree(part, ["y", "x"], text)
        self.assertGreater(compared, 2000)


if __name__ == "__main__":
    unittest.main()
