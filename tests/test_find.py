"""find: the first match from a byte on, and what it captures."""

import unittest

from helping import Unchangeable
from toldpatterns.patterns import find

LARGEST = 10 ** 18


class FindCase(unittest.TestCase):

    def answers(self, from_byte, pattern, text, answer):
        with self.subTest(from_byte=from_byte, pattern=pattern, text=text):
            self.assertEqual(find(from_byte, list(pattern), list(text)), answer)


class Matches(FindCase):

    def test_begins_first(self):
        self.answers(0, b"b|aaa", b"xbaaa", [1, 1, 2])
        self.answers(0, b"a*", b"baa", [1, 0, 0])
        self.answers(0, b"a+", b"baa", [1, 1, 3])
        self.answers(0, b"bcd|ab", b"abcd", [1, 0, 2])
        self.answers(0, b"c", b"ab", [0])
        self.answers(0, b"", b"", [1, 0, 0])
        self.answers(0, b"", b"ab", [1, 0, 0])
        self.answers(0, b"a", b"", [0])

    def test_ends_last(self):
        self.answers(0, b"a|ab", b"ab", [1, 0, 2])
        self.answers(0, b"a|ab|abc", b"abcd", [1, 0, 3])
        self.answers(0, b"|a", b"ab", [1, 0, 1])
        self.answers(0, b"(a|ab)(c|bcd)", b"abcdx", [1, 0, 4])
        self.answers(0, b"(|a){0,2}", b"aaa", [1, 0, 2])
        self.answers(0, b"(|a)*", b"aaab", [1, 0, 3])

    def test_captures_are_those_of_the_first_way_to_that_end(self):
        self.answers(0, b"<x a|ab><y c|bcd>", b"abcd", [1, 0, 4, 0, 1, 1, 4])
        self.answers(0, b"<x a|ab><y c|bcd><z d*>", b"abcd", [1, 0, 4, 0, 1, 1, 4, 4, 4])
        self.answers(0, b"<x a|ab><y c|bcd>?", b"xabc", [1, 1, 4, 1, 3, 3, 4])
        self.answers(0, b"<x a*><y a*>", b"baa", [1, 0, 0, 0, 0, 0, 0])
        self.answers(1, b"<x a*><y a*>", b"baa", [1, 1, 3, 1, 3, 3, 3])
        self.answers(0, b"<x >a|<y ab>", b"ab", [1, 0, 2, -1, -1, 0, 2])
        self.answers(0, b"<x a>|<y b>", b"cb", [1, 1, 2, -1, -1, 1, 2])
        self.answers(0, b"(<x a*>)*b", b"caab", [1, 1, 4, 1, 3])
        self.answers(0, b"<x c>", b"ab", [0])

    def test_ordinary_searches(self):
        text = b"On 2026-11-19, and on 2025-1-2: EUR 19.90"
        date = b"<y \\d{4}>-<m \\d{1,2}>-<d \\d{1,2}>"
        self.answers(0, date, text, [1, 3, 13, 3, 7, 8, 10, 11, 13])
        self.answers(4, date, text, [1, 22, 30, 22, 26, 27, 28, 29, 30])
        self.answers(23, date, text, [0])
        self.answers(0, b"\\b<unit [A-Z]{3}> <sum \\d+(\\.\\d{2})?>", text, [1, 32, 41, 32, 35, 36, 41])


class FromByte(FindCase):

    def test_matches_before_it_do_not_count(self):
        self.answers(1, b"a*", b"baa", [1, 1, 3])
        self.answers(2, b"a*", b"baa", [1, 2, 3])
        self.answers(1, b"ab", b"abab", [1, 2, 4])
        self.answers(3, b"ab", b"abab", [0])

    def test_end_of_the_text_is_a_place(self):
        self.answers(2, b"", b"ab", [1, 2, 2])
        self.answers(2, b"$", b"ab", [1, 2, 2])
        self.answers(2, b"b", b"ab", [0])
        self.answers(0, b"", b"", [1, 0, 0])

    def test_no_value_begins_there(self):
        for from_byte in (3, 4, 128, 129, LARGEST, -1, -2, -LARGEST):
            self.answers(from_byte, b"", b"ab", [-1])
            self.answers(from_byte, b"c", b"ab", [-1])
        self.answers(1, b"", b"", [-1])
        self.answers(129, b"", b"a" * 128, [-1])
        self.answers(128, b"", b"a" * 128, [1, 128, 128])

    def test_values_of_more_bytes(self):
        for value in (b"\xc3\xa9", b"\xe2\x82\xac", b"\xf0\x9f\x98\x80"):
            length = len(value)
            self.answers(0, b".", value, [1, 0, length])
            self.answers(0, b"<x .>$", b"a" + value, [1, 1, length + 1, 1, length + 1])
            self.answers(length, b"$", value, [1, length, length])
            self.answers(length + 1, b"<x b>", value + b"ab", [1, length + 1, length + 2, length + 1, length + 2])
            for within in range(1, length):
                self.answers(within, b".", value, [-1])
                self.answers(within, b"", value + b"ab", [-1])
                self.answers(within + 1, b"", b"a" + value, [-1])
        self.answers(3, b".", b"a\xc3\xa9b", [1, 3, 4])

    def test_signs_look_at_the_whole_text(self):
        self.answers(0, b"^a", b"aa", [1, 0, 1])
        self.answers(1, b"^a", b"aa", [0])
        self.answers(1, b"^", b"aa", [0])
        self.answers(1, b"\\ba", b"aa", [0])
        self.answers(1, b"\\ba", b" a", [1, 1, 2])
        self.answers(1, b"\\b", b"a ", [1, 1, 1])
        self.answers(2, b"\\b", b"a ", [0])


class Values(FindCase):

    def test_signs_of_begin_end_and_edge(self):
        self.answers(0, b"\\b", b" a", [1, 1, 1])
        self.answers(0, b"\\b", b"a", [1, 0, 0])
        self.answers(0, b"\\b", b" ", [0])
        self.answers(0, b"b\\b", b"bb", [1, 1, 2])
        self.answers(0, b"a$", b"a\n", [0])
        self.answers(0, b"$", b"a\n", [1, 2, 2])
        self.answers(0, b"^b", b"a\nb", [0])

    def test_listed_values(self):
        self.answers(0, b".", b"\n", [1, 0, 1])
        self.answers(0, b"\\w", b"\xc3\xa9", [0])
        self.answers(0, b"\\W", b"\xc3\xa9", [1, 0, 2])
        self.answers(0, b"\\s", b"a\x0b", [1, 1, 2])
        self.answers(0, b"\\s", b"\xc2\xa0", [0])
        self.answers(0, b"[^\\D]+", b"a/09:\xd9\xa0", [1, 2, 4])


class Refusals(FindCase):

    def test_too_long(self):
        self.answers(0, b"a" * 128, b"a" * 128, [1, 0, 128])
        for from_byte in (0, 9, -1, LARGEST):
            self.answers(from_byte, b"a" * 129, b"a", [-2])
            self.answers(from_byte, b"a", b"a" * 129, [-2])
            self.answers(from_byte, b"(" * 129, b"\xff", [-2])
            self.answers(from_byte, b"(", b"a" * 129, [-2])
            self.answers(from_byte, b"a", b"\xff" * 1000, [-2])

    def test_not_in_form(self):
        for from_byte in (0, 1, 9, -1, LARGEST):
            self.answers(from_byte, b"(", b"a", [-6])
            self.answers(from_byte, b"(a{20}){11}", b"a", [-6])
            self.answers(from_byte, b"a", b"\xff", [-6])
            self.answers(from_byte, b"a", b"a\xed\xa0\x80", [-6])
            self.answers(from_byte, b"a", b"aa\xc3", [-6])
            self.answers(from_byte, b")", b"\xff", [-6])


class EachCallByItself(FindCase):

    def test_nothing_is_kept(self):
        for round_of_calls in range(3):
            self.answers(0, b"(<x a>|<y b>)+", b"cab", [1, 1, 3, 1, 2, 2, 3])
            self.answers(2, b"(<x a>|<y b>)+", b"cab", [1, 2, 3, -1, -1, 2, 3])
            self.answers(0, b"(<x a>|<y b>)+", b"c", [0])
            self.answers(9, b"<x b>", b"b", [-1])

    def test_what_is_handed_in_is_not_changed(self):
        calls = (
            (0, b"<x [^a-z\\d]*>(.|\\b){2,3}", b"\xc3\xa9 a"), (1, b"a", b"\xc3\xa9"), (0, b"(", b"a"),
            (0, b"a", b"\xff"), (0, b"a" * 129, b"a"), (0, b"", b""),
        )
        for (from_byte, pattern, text) in calls:
            given = (Unchangeable(pattern), Unchangeable(text))
            find(from_byte, *given)
            self.assertEqual([list(one) for one in given], [list(pattern), list(text)])


if __name__ == "__main__":
    unittest.main()
