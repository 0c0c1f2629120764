"""split: the parts of a text before, between and behind all matches."""

import unittest

from helping import FAULTY_PAIRS, TOO_LONG_PAIRS, Unchangeable
from toldpatterns.patterns import all_of, split


class SplitCase(unittest.TestCase):

    def answers(self, pattern, text, answer):
        with self.subTest(pattern=pattern, text=text):
            self.assertEqual(split(list(pattern), list(text)), answer)

    def has_parts(self, pattern, text, *parts):
        """The parts themselves, where it's the same which of several like ones is meant."""
        answer = split(list(pattern), list(text))
        spans = [answer[at:at + 2] for at in range(1, len(answer), 2)]
        with self.subTest(pattern=pattern, text=text):
            self.assertEqual(answer[0], len(parts))
            self.assertEqual([text[begin:end] for (begin, end) in spans], list(parts))


class Parts(SplitCase):

    def test_before_between_and_behind_matches(self):
        self.answers(b",", b"a,b,,c", [4, 0, 1, 2, 3, 4, 4, 5, 6])
        self.answers(b"a", b"bab", [2, 0, 1, 2, 3])
        self.answers(b"ab", b"abcabd", [3, 0, 0, 2, 3, 5, 6])
        self.has_parts(b" *, *", b"one , two,three", b"one", b"two", b"three")
        self.has_parts(b"\\s+", b"a b\t\tc\n", b"a", b"b", b"c", b"")

    def test_empty_ones(self):
        self.answers(b",", b",", [2, 0, 0, 1, 1])
        self.answers(b"a", b"aa", [3, 0, 0, 1, 1, 2, 2])
        self.answers(b".*", b"ab", [2, 0, 0, 2, 2])

    def test_no_match(self):
        self.answers(b"c", b"ab", [1, 0, 2])
        self.answers(b"c", b"", [1, 0, 0])

    def test_matches_begin_first_and_end_last(self):
        self.answers(b"a|ab", b"cabd", [2, 0, 1, 3, 4])
        self.answers(b"aa", b"aaaaa", [3, 0, 0, 2, 2, 4, 5])
        self.answers(b"b|aaa", b"xbaaa", [3, 0, 1, 2, 2, 5, 5])

    def test_names_have_no_parts(self):
        self.answers(b"<x ,>|<y ;>", b"a,b;c", [3, 0, 1, 2, 3, 4, 5])

    def test_places_are_in_bytes(self):
        self.answers(b"\xc3\xa9", b"\xf0\x9f\x98\x80\xc3\xa9\xe2\x82\xac", [2, 0, 4, 6, 9])
        self.answers(b",", b"\xc3\xa9,\xc3\xa9", [2, 0, 2, 3, 5])

    def test_as_many_as_can_be(self):
        self.answers(b".", b"a" * 128, [129] + [place for at in range(129) for place in (at, at)])
        between = [place for at in range(128) for place in (at, at + 1)]
        self.answers(b"", b"a" * 128, [130, 0, 0] + between + [128, 128])


class MatchesWithoutAValue(SplitCase):

    def test_parts_between_them(self):
        self.answers(b"", b"", [2, 0, 0, 0, 0])
        self.answers(b"", b"ab", [4, 0, 0, 0, 1, 1, 2, 2, 2])
        self.answers(b"$", b"ab", [2, 0, 2, 2, 2])
        self.answers(b"^", b"ab", [2, 0, 0, 0, 2])
        self.answers(b"\\b", b"a b", [5, 0, 0, 0, 1, 1, 2, 2, 3, 3, 3])
        self.answers(b"", b"\xc3\xa9", [3, 0, 0, 0, 2, 2, 2])

    def test_where_the_one_before_it_ended_there_is_none(self):
        self.answers(b"a*", b"baab", [4, 0, 0, 0, 1, 3, 4, 4, 4])
        self.answers(b"b*", b"abb", [3, 0, 0, 0, 1, 3, 3])
        self.answers(b"a*", b"aa", [2, 0, 0, 2, 2])


class Promises(SplitCase):

    PATTERNS = (
        b"", b"a", b"a*", b"b+|", b"a|ab", b"ab|ba|c?", b"\\b", b"(ab)*", b"$|a", b"^a*|b", b".{2}|$", b"<x a|b*>c?", b"[^a]*",
    )
    TEXTS = (b"", b"a", b"b", b"aabb", b"abcabc", b"baab", b" ab a", b"ababa", b"c\xc3\xa9ba", b"bbcaab  ab")

    def test_each_part_goes_from_match_to_match(self):
        for pattern in self.PATTERNS:
            for text in self.TEXTS:
                found = all_of(list(pattern), list(text))
                self.answers(pattern, text, [found[0] + 1, 0] + found[1:] + [len(text)])


class Refusals(SplitCase):

    def test_too_long(self):
        self.answers(b"a" * 128, b"a" * 128, [2, 0, 0, 128, 128])
        for (pattern, text) in TOO_LONG_PAIRS:
            self.answers(pattern, text, [-2])

    def test_not_in_form(self):
        for (pattern, text) in FAULTY_PAIRS:
            self.answers(pattern, text, [-6])


class EachCallByItself(SplitCase):

    def test_nothing_is_kept(self):
        for round_of_calls in range(3):
            self.answers(b",", b"a,b,,c", [4, 0, 1, 2, 3, 4, 4, 5, 6])
            self.answers(b",", b"ab", [1, 0, 2])
            self.answers(b"(", b"ab", [-6])
            self.answers(b"a", b"ab", [2, 0, 0, 1, 2])

    def test_what_is_handed_in_is_not_changed(self):
        calls = (
            (b"<x [^a-z\\d]*>(.|\\b){2,3}", b"\xc3\xa9 a"), (b"(", b"a"), (b"a", b"\xff"), (b"a" * 129, b"a"), (b"", b""),
        )
        for (pattern, text) in calls:
            given = (Unchangeable(pattern), Unchangeable(text))
            split(*given)
            self.assertEqual([list(one) for one in given], [list(pattern), list(text)])


if __name__ == "__main__":
    unittest.main()
