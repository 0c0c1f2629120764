"""all_of: all matches, one behind another."""

import unittest

from helping import FAULTY_PAIRS, TOO_LONG_PAIRS, Unchangeable
from toldpatterns.patterns import all_of, find


class AllCase(unittest.TestCase):

    def answers(self, pattern, text, answer):
        with self.subTest(pattern=pattern, text=text):
            self.assertEqual(all_of(list(pattern), list(text)), answer)


class Matches(AllCase):

    def test_one_behind_another(self):
        self.answers(b"a", b"aa", [2, 0, 1, 1, 2])
        self.answers(b"a", b"bab", [1, 1, 2])
        self.answers(b"ab", b"abcab", [2, 0, 2, 3, 5])
        self.answers(b"\\d+", b"1 22,333", [3, 0, 1, 2, 4, 5, 8])
        self.answers(b"<year \\d+>-<m \\d+>", b"2026-11 2027-1", [2, 0, 7, 8, 14])

    def test_none(self):
        self.answers(b"c", b"ab", [0])
        self.answers(b"a", b"", [0])
        self.answers(b"a^", b"aa", [0])

    def test_each_begins_first_and_ends_last(self):
        self.answers(b"a|ab", b"abab", [2, 0, 2, 2, 4])
        self.answers(b"b|aaa", b"xbaaa", [2, 1, 2, 2, 5])
        self.answers(b"bc|ab", b"abcbc", [2, 0, 2, 3, 5])

    def test_none_begins_within_the_one_before_it(self):
        self.answers(b"aa", b"aaaaa", [2, 0, 2, 2, 4])
        self.answers(b"aba", b"ababa", [1, 0, 3])
        self.answers(b"aba", b"abababa", [2, 0, 3, 4, 7])

    def test_signs_look_at_the_whole_text(self):
        self.answers(b"^a", b"aa", [1, 0, 1])
        self.answers(b"a$", b"aa", [1, 1, 2])
        self.answers(b"\\ba", b"aa a", [2, 0, 1, 3, 4])
        self.answers(b"^.", b"ab", [1, 0, 1])

    def test_as_many_as_can_be(self):
        spans = [place for begin in range(128) for place in (begin, begin + 1)]
        self.answers(b".", b"a" * 128, [128] + spans)
        spans = [place for begin in range(129) for place in (begin, begin)]
        self.answers(b"", b"a" * 128, [129] + spans)


class WithoutAValue(AllCase):

    def test_the_next_one_is_a_value_further(self):
        self.answers(b"", b"", [1, 0, 0])
        self.answers(b"", b"ab", [3, 0, 0, 1, 1, 2, 2])
        self.answers(b"\\b", b"a b", [4, 0, 0, 1, 1, 2, 2, 3, 3])
        self.answers(b"$", b"ab", [1, 2, 2])
        self.answers(b"^", b"ab", [1, 0, 0])
        self.answers(b"^|$", b"", [1, 0, 0])
        self.answers(b"^|$", b"a", [2, 0, 0, 1, 1])

    def test_where_the_one_before_it_ended_it_is_not_taken(self):
        self.answers(b"a*", b"aa", [1, 0, 2])
        self.answers(b"a*", b"baab", [3, 0, 0, 1, 3, 4, 4])
        self.answers(b"b*", b"abb", [2, 0, 0, 1, 3])
        self.answers(b"a|$", b"ba", [1, 1, 2])
        self.answers(b"ab|\\b", b"ab ab", [2, 0, 2, 3, 5])

    def test_behind_one_that_is_not_taken_it_goes_on(self):
        self.answers(b"a*", b"abba", [3, 0, 1, 2, 2, 3, 4])
        self.answers(b"a|", b"abb", [3, 0, 1, 2, 2, 3, 3])
        self.answers(b"ab|b*", b"abcbb", [2, 0, 2, 3, 5])

    def test_one_with_a_value_may_begin_where_the_one_before_it_ended(self):
        self.answers(b"a{2}|b|", b"aabb", [3, 0, 2, 2, 3, 3, 4])
        self.answers(b"^|a", b"aa", [2, 0, 1, 1, 2])
        self.answers(b"^|b", b"ab", [2, 0, 0, 1, 2])


class Places(AllCase):

    def test_in_bytes(self):
        self.answers(b".", b"\xc3\xa9a", [2, 0, 2, 2, 3])
        self.answers(b"a", b"\xf0\x9f\x98\x80a\xe2\x82\xaca", [2, 4, 5, 8, 9])

    def test_one_value_further_is_all_its_bytes(self):
        for value in (b"\xc3\xa9", b"\xe2\x82\xac", b"\xf0\x9f\x98\x80"):
            length = len(value)
            self.answers(b"", value, [2, 0, 0, length, length])
            self.answers(b"b*", value + b"b", [2, 0, 0, length, length + 1])
            self.answers(b"b*", b"b" + value, [2, 0, 1, length + 1, length + 1])


class Promises(AllCase):

    PATTERNS = (
        b"", b"a", b"a*", b"b+|", b"a|ab", b"ab|ba|c?", b"\\b", b"\\b.", b"(ab)*", b"$|a", b"^a*|b", b".{2}|$", b"a?",
        b"<x a|b*>c?", b"\\w+", b"[^a]*", b"aba|a", b"(|a)(|b)",
    )
    TEXTS = (b"", b"a", b"b", b"aabb", b"abcabc", b"baab", b" ab a", b"ababa", b"c\xc3\xa9ba", b"bbcaab  ab")

    def test_between_matches_there_is_none_but_what_was_left_for_them(self):
        for pattern in self.PATTERNS:
            for text in self.TEXTS:
                with self.subTest(pattern=pattern, text=text):
                    self.check_what_is_between(list(pattern), list(text))

    def check_what_is_between(self, pattern, text):
        answer = all_of(pattern, text)
        self.assertEqual(len(answer), 1 + 2 * answer[0])
        spans = [tuple(answer[at:at + 2]) for at in range(1, len(answer), 2)]
        end = None
        for span in spans + [None]:
            self.assert_no_value_shared(end, span)
            for at in range(end or 0, len(text) + 1):
                found = find(at, pattern, text)
                if found == [-1] or (at == end and found[1:3] == [end, end]):
                    continue
                if span is None:
                    self.assertEqual(found, [0])
                elif at <= span[0]:
                    self.assertEqual(tuple(found[1:3]), span)
            if span is not None:
                end = span[1]

    def assert_no_value_shared(self, end, span):
        if end is not None and span is not None:
            self.assertGreaterEqual(span[0], end)
            self.assertNotEqual(span, (end, end))


class Refusals(AllCase):

    def test_too_long(self):
        self.answers(b"a" * 128, b"a" * 128, [1, 0, 128])
        for (pattern, text) in TOO_LONG_PAIRS:
            self.answers(pattern, text, [-2])

    def test_not_in_form(self):
        for (pattern, text) in FAULTY_PAIRS:
            self.answers(pattern, text, [-6])


class EachCallByItself(AllCase):

    def test_nothing_is_kept(self):
        for round_of_calls in range(3):
            self.answers(b"a*", b"baab", [3, 0, 0, 1, 3, 4, 4])
            self.answers(b"a*", b"b", [2, 0, 0, 1, 1])
            self.answers(b"(", b"b", [-6])
            self.answers(b"a", b"baab", [2, 1, 2, 2, 3])

    def test_what_is_handed_in_is_not_changed(self):
        calls = (
            (b"<x [^a-z\\d]*>(.|\\b){2,3}", b"\xc3\xa9 a"), (b"(", b"a"), (b"a", b"\xff"), (b"a" * 129, b"a"), (b"", b""),
        )
        for (pattern, text) in calls:
            given = (Unchangeable(pattern), Unchangeable(text))
            all_of(*given)
            self.assertEqual([list(one) for one in given], [list(pattern), list(text)])


if __name__ == "__main__":
    unittest.main()
