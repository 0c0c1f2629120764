"""put: all matches replaced."""

import unittest

from helping import Unchangeable
from toldpatterns.patterns import put

NAME_SIGNS = b"abcdefghijklmnopqrstuvwxyz0123456789_"


class PutCase(unittest.TestCase):

    def gives(self, pattern, text, replacing, made):
        self.answers(pattern, text, replacing, [0] + list(made))

    def answers(self, pattern, text, replacing, answer):
        with self.subTest(pattern=pattern, text=text, replacing=replacing):
            self.assertEqual(put(list(pattern), list(text), list(replacing)), answer)


class Replaced(PutCase):

    def test_all_matches(self):
        self.gives(b"a", b"bab", b"x", b"bxb")
        self.gives(b"a", b"bab", b"", b"bb")
        self.gives(b"a", b"aa", b"xyz", b"xyzxyz")
        self.gives(b"aa", b"aaaaa", b"-", b"--a")
        self.gives(b"a|ab", b"abab", b".", b"..")
        self.gives(b"c", b"ab", b"x", b"ab")
        self.gives(b"c", b"", b"x", b"")

    def test_matches_without_a_value(self):
        self.gives(b"", b"ab", b"-", b"-a-b-")
        self.gives(b"", b"", b"-", b"-")
        self.gives(b"a*", b"baab", b"-", b"-b-b-")
        self.gives(b"b*", b"abb", b"-", b"-a-")
        self.gives(b"$", b"ab", b"-", b"ab-")
        self.gives(b"\\b", b"a b", b"|", b"|a| |b|")
        self.gives(b"", b"\xc3\xa9", b"-", b"-\xc3\xa9-")

    def test_what_is_put_in_is_not_searched(self):
        self.gives(b"a", b"a", b"aa", b"aa")
        self.gives(b"ab", b"aab", b"a", b"aa")
        self.gives(b"^a", b"aa", b"", b"a")

    def test_values_of_more_bytes(self):
        self.gives(b"\xc3\xa9", b"a\xc3\xa9b", b"\xe2\x82\xac", b"a\xe2\x82\xacb")
        self.gives(b".", b"\xf0\x9f\x98\x80\xc3\xa9", b"<$0>", b"<\xf0\x9f\x98\x80><\xc3\xa9>")

    def test_any_bytes(self):
        self.gives(b"a", b"a", b"\xff\xc3", b"\xff\xc3")
        others = bytes(byte for byte in range(256) if byte != ord("$"))
        self.gives(b"a", b"bab", others[:128], b"b" + others[:128] + b"b")
        self.gives(b"a", b"bab", others[128:], b"b" + others[128:] + b"b")
        self.gives(b"<x .>", b"a", b"\xc3$x\xa9", b"\xc3a\xa9")


class References(PutCase):

    def test_what_matched(self):
        self.gives(b"a", b"bab", b"$0", b"bab")
        self.gives(b"a+", b"baab", b"[$0$0]", b"b[aaaa]b")
        self.gives(b"a", b"a", b"$00", b"a0")
        self.gives(b"a", b"a", b"$0a", b"aa")
        self.gives(b"<x a>", b"a", b"$0x", b"ax")

    def test_what_a_name_captured_there(self):
        self.gives(b"<year \\d+>-<m \\d+>", b"2026-11", b"$m/$year", b"11/2026")
        self.gives(b"<year \\d+>-<m \\d+>", b"on 2026-11, 2027-1.", b"$m/$year", b"on 11/2026, 1/2027.")
        self.gives(b"<x a>|<y b>", b"ab", b"[$x,$y]", b"[a,][,b]")
        self.gives(b"<x (a|b)*>", b"abc", b"<$x>", b"<ab>c<>")
        self.gives(b"<x a>|b", b"ab", b"$x$0$$", b"aa$b$")
        self.gives(b"<x <y a>b>", b"ab", b"$y$x$y", b"aaba")
        self.gives(b"(<x a|b>)*", b"ab", b"$x", b"b")

    def test_captures_are_those_of_the_first_way(self):
        self.gives(b"<x a|ab><y c|bcd>", b"abcd", b"$x,$y", b"a,bcd")
        self.gives(b"<x a*><y a*>", b"aa", b"$x,$y", b"aa,")

    def test_nothing_captured(self):
        self.gives(b"(<x c>)?a", b"ba", b"[$x]", b"b[]")
        self.gives(b"<x >a", b"ba", b"[$x]", b"b[]")
        self.gives(b"<x a>|b", b"abab", b"$x.", b"a..a..")

    def test_the_name_goes_as_far_as_its_signs(self):
        self.gives(b"<x a>", b"a", b"$xX", b"aX")
        self.gives(b"<x a>", b"a", b"$x-$x$x", b"a-aa")
        self.gives(b"<x a><x1 b>", b"ab", b"$x1$x", b"ba")
        self.gives(b"<a_9z a>", b"a", b"$a_9z.", b"a.")
        self.gives(b"<x a>", b"a", b"$x\xc3\xa9", b"a\xc3\xa9")
        for byte in range(256):
            if byte in NAME_SIGNS:
                self.answers(b"<x a>", b"a", b"-$x%c" % byte, [-5, 1])
            elif byte != ord("$"):
                self.gives(b"<x a>", b"a", b"-$x%c" % byte, b"-a%c" % byte)

    def test_longest_name(self):
        name = b"n" * 32
        self.gives(b"<%b a>" % name, b"a", b"$" + name, b"a")
        self.answers(b"<%b a>" % name, b"a", b"$" + name + b"n", [-5, 0])
        self.answers(b"<%b a>" % name, b"a", b"$" + name[1:], [-5, 0])

    def test_sixteen_names(self):
        letters = b"ponmlkjihgfedcba"
        pattern = b"".join(b"<%c .>" % letter for letter in letters)
        replacing = b"".join(b"$%c" % letter for letter in reversed(letters))
        self.gives(pattern, b"0123456789ABCDEF", replacing, b"FEDCBA9876543210")

    def test_a_dollar(self):
        self.gives(b"a", b"a", b"$$", b"$")
        self.gives(b"a", b"a", b"$$0", b"$0")
        self.gives(b"a", b"a", b"$$$0", b"$a")
        self.gives(b"a", b"a", b"$$$$", b"$$")
        self.gives(b"<x a>", b"a", b"$$x", b"$x")
        self.gives(b"\\$", b"a$", b"$0$$", b"a$$")


class FaultyReferences(PutCase):

    def test_a_dollar_that_is_none_of_these(self):
        for byte in range(256):
            answer = [-5, 0]
            if byte in b"0$":
                answer = [0] + list(b"a" if byte == ord("0") else b"$")
            self.answers(b"a", b"a", b"$%c" % byte, answer)
        self.answers(b"a", b"a", b"$", [-5, 0])
        self.answers(b"<x a>", b"a", b"$X", [-5, 0])
        self.answers(b"a", b"a", b"$1", [-5, 0])
        self.answers(b"<x a>", b"a", b"$ x", [-5, 0])
        self.answers(b"<x a>", b"a", b"$_x", [-5, 0])
        self.answers(b"<x a>", b"a", b"${x}", [-5, 0])

    def test_its_place(self):
        self.answers(b"<x a>", b"a", b"$x$", [-5, 2])
        self.answers(b"a", b"b", b"ab$", [-5, 2])
        self.answers(b"a", b"b", b"$$$", [-5, 2])
        self.answers(b"a", b"b", b"$0$1", [-5, 2])
        self.answers(b"a", b"b", b"\xc3\xa9$", [-5, 2])
        self.answers(b"a", b"b", b"a" * 127 + b"$", [-5, 127])

    def test_the_first_of_several(self):
        self.answers(b"<x a>", b"a", b"$x.$y.$", [-5, 3])
        self.answers(b"<x a>", b"a", b".$.$y", [-5, 1])
        self.answers(b"<x a>", b"a", b"$$$q$1", [-5, 2])

    def test_a_name_that_the_pattern_has_not(self):
        self.answers(b"<x a>", b"a", b"$y", [-5, 0])
        self.answers(b"<x a>", b"a", b"$x1", [-5, 0])
        self.answers(b"<xy a>", b"a", b"$x", [-5, 0])
        self.answers(b"x", b"a", b"$x", [-5, 0])

    def test_though_nothing_matches(self):
        self.answers(b"c", b"ab", b"$q", [-5, 0])
        self.answers(b"<x c>", b"ab", b"..$", [-5, 2])
        self.gives(b"<x c>", b"ab", b"$x", b"ab")


class TooLarge(PutCase):

    def test_8192_bytes_at_most(self):
        text = b"a" * 128
        self.gives(b".", text, b"b" * 64, b"b" * 8192)
        self.answers(b".", text, b"b" * 65, [-9])
        self.gives(b"", text, b"b" * 62, b"a".join([b"b" * 62] * 129))
        self.answers(b"", text, b"b" * 63, [-9])
        self.gives(b"a*", text, b"$0" * 64, b"a" * 8192)
        self.gives(b"<x a>*b?", b"a" * 127 + b"b", b"$0" * 64, (b"a" * 127 + b"b") * 64)
        self.answers(b".", text, b"b" * 128, [-9])

    def test_the_bytes_between_matches_count(self):
        self.gives(b"a", b"a" * 64 + b"-" * 64, b"b" * 127, b"b" * 64 * 127 + b"-" * 64)
        self.answers(b"a", b"a" * 65 + b"-" * 63, b"b" * 127, [-9])
        self.answers(b"a", b"a" * 64 + b"-" * 64, b"b" * 128, [-9])
        self.gives(b"a", b"a" * 64, b"b" * 128, b"b" * 8192)
        self.answers(b"a", b"a" * 64 + b"-", b"b" * 128, [-9])
        self.answers(b"a", b"-" + b"a" * 64, b"b" * 128, [-9])


class Promises(PutCase):

    def test_replaced_by_what_matched_a_text_is_as_it_was(self):
        patterns = (
            b"", b"a", b"a*", b"b+|", b"a|ab", b"\\b", b"$", b"^", b"(ab)*", b"<x a|b*>c?", b".", b".*", b"[^a]", b"\\W",
        )
        texts = (b"", b"a", b"aabb", b" ab a", b"c\xc3\xa9ba", b"$0$x", b"\xf0\x9f\x98\x80", b"ab" * 64)
        for pattern in patterns:
            for text in texts:
                self.gives(pattern, text, b"$0", text)


class Refusals(PutCase):

    def test_too_long(self):
        self.gives(b"a" * 128, b"a" * 128, b"b" * 128, b"b" * 128)
        self.answers(b"a" * 129, b"a", b"", [-2])
        self.answers(b"a", b"a" * 129, b"", [-2])
        self.answers(b"a", b"a", b"a" * 129, [-2])
        self.answers(b"(", b"a", b"a" * 129, [-2])
        self.answers(b"a", b"\xff", b"a" * 129, [-2])
        self.answers(b"a", b"a", b"$" * 129, [-2])
        self.answers(b"(" * 129, b"\xff", b"$", [-2])
        self.answers(b"(", b"a" * 129, b"$", [-2])
        self.answers(b"a" * 1000, b"a" * 1000, b"a" * 1000, [-2])

    def test_not_in_form(self):
        for pattern in (b"(", b"a)", b"*", b"a{21}", b"<a b><a c>", b"(" * 41, b"[b-a]", b"(a{20}){11}", b"\x80"):
            self.answers(pattern, b"a", b"", [-6])
            self.answers(pattern, b"a", b"$", [-6])
            self.answers(pattern, b"a" * 128, b"b" * 128, [-6])
        for text in (b"\xff", b"a\xed\xa0\x80", b"aa\xc3"):
            self.answers(b"a", text, b"", [-6])
            self.answers(b"a", text, b"$", [-6])
        self.answers(b"<x a", b"a", b"$x", [-6])

    def test_a_faulty_reference_comes_before_what_is_too_large(self):
        self.answers(b".", b"a" * 128, b"b" * 127 + b"$", [-5, 127])
        self.answers(b".", b"a" * 128, b"$q" + b"b" * 126, [-5, 0])


class EachCallByItself(PutCase):

    def test_nothing_is_kept(self):
        for round_of_calls in range(3):
            self.gives(b"<x a>|<y b>", b"ab", b"[$x,$y]", b"[a,][,b]")
            self.gives(b"<y a>|<x b>", b"ab", b"[$x,$y]", b"[,a][b,]")
            self.answers(b"<y a>", b"ab", b"[$x,$y]", [-5, 1])
            self.answers(b"(", b"ab", b"[$x,$y]", [-6])
            self.answers(b".", b"a" * 128, b"b" * 65, [-9])

    def test_what_is_handed_in_is_not_changed(self):
        calls = (
            (b"<x [^a-z\\d]*>(.|\\b){2,3}", b"\xc3\xa9 a", b"[$x]$0$$\xff"), (b"(", b"a", b"$"), (b"a", b"\xff", b"$"),
            (b"a" * 129, b"a", b""), (b"a", b"a", b"..$q"), (b".", b"a" * 128, b"b" * 65), (b"", b"", b""),
        )
        for call in calls:
            given = [Unchangeable(one) for one in call]
            put(*given)
            self.assertEqual([list(one) for one in given], [list(one) for one in call])


if __name__ == "__main__":
    unittest.main()
