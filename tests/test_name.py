"""name: where in a pattern a name stands."""

import unittest

from toldpatterns.patterns import name

LARGEST = 10 ** 18


class Name(unittest.TestCase):

    def answers(self, k, pattern, answer):
        given = list(pattern)
        self.assertEqual(name(k, given), answer)
        self.assertEqual(given, list(pattern))

    def test_place_and_length(self):
        self.answers(0, b"<ab x>|(<c9_ y>)", [0, 1, 2])
        self.answers(1, b"<ab x>|(<c9_ y>)", [0, 9, 3])
        self.answers(0, b"<a >", [0, 1, 1])
        self.answers(0, b"a<" + b"b" * 32 + b" >", [0, 2, 32])

    def test_places_are_in_bytes(self):
        self.answers(0, b"\xc3\xa9\xf0\x9f\x98\x80<ab >", [0, 7, 2])

    def test_order_is_that_of_the_opening_signs(self):
        pattern = b"<out (<in x>)*>|<last y>"
        self.answers(0, pattern, [0, 1, 3])
        self.answers(1, pattern, [0, 7, 2])
        self.answers(2, pattern, [0, 17, 4])

    def test_sixteen_names(self):
        pattern = b"".join(b"<%c >" % letter for letter in b"ponmlkjihgfedcba")
        for k in range(16):
            self.answers(k, pattern, [0, 4 * k + 1, 1])
        self.answers(16, pattern, [-4])

    def test_signs_that_open_no_name(self):
        self.answers(0, b"\\<a [<b ]<c d>", [0, 10, 1])
        self.answers(0, b"\\<a [<b ]", [-4])

    def test_there_is_none(self):
        for k in (2, 3, -1, -2, LARGEST, -LARGEST):
            self.answers(k, b"<ab x>|(<c9_ y>)", [-4])
        for k in (0, 1, -1):
            self.answers(k, b"", [-4])
            self.answers(k, b"(a)", [-4])

    def test_no_pattern(self):
        faulty = (b"(", b"<a b>)", b"a{21}", b"<a b><a c>", b"(" * 41, b"[b-a]", b"<a (a{20}){11}>", b"<a >\x80")
        for pattern in faulty:
            for k in (0, 1, -1):
                self.answers(k, pattern, [-6])

    def test_too_long(self):
        self.answers(0, b"<a " + b"b" * 124 + b">", [0, 1, 1])
        for k in (0, 1, -1):
            self.answers(k, b"<a " + b"b" * 125 + b">", [-2])
            self.answers(k, b"(" * 129, [-2])
            self.answers(k, b"(" * 1000, [-2])

    def test_nothing_is_kept(self):
        for round_of_calls in range(3):
            self.answers(1, b"<ab x>|(<c9_ y>)", [0, 9, 3])
            self.answers(1, b"<a b>", [-4])
            self.answers(0, b"<a b><a c>", [-6])
            self.answers(0, b"x<a b>", [0, 2, 1])


if __name__ == "__main__":
    unittest.main()
