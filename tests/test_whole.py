"""whole: whether a way goes through all of a text, and what the first such one captures."""

import unittest

from helping import Unchangeable
from toldpatterns.patterns import whole

WORD_BYTES = b"ABCDEFGHIJKLMNOPQRSTUVWXYZabcdefghijklmnopqrstuvwxyz0123456789_"
FIGURE_BYTES = b"0123456789"
BLANK_BYTES = b" \x09\x0a\x0b\x0c\x0d"
SIGNS = b"|*+?{}.^$\\[]()<>"


class WholeCase(unittest.TestCase):

    def answers(self, pattern, text, answer):
        with self.subTest(pattern=pattern, text=text):
            self.assertEqual(whole(list(pattern), list(text)), answer)

    def fits(self, pattern, *texts):
        for text in texts:
            self.answers(pattern, text, [1])

    def fits_none(self, pattern, *texts):
        for text in texts:
            self.answers(pattern, text, [0])

    def has_just(self, pattern, having):
        """Of the texts of one value up to 7F it fits just these."""
        for byte in range(0x80):
            self.answers(pattern, bytes([byte]), [int(byte in having)])


class Values(WholeCase):

    def test_plain_values(self):
        for byte in set(range(0x80)) - set(SIGNS):
            self.has_just(bytes([byte]), [byte])
        self.fits(b"\xc3\xa9", b"\xc3\xa9")
        self.fits_none(b"\xc3\xa9", b"\xc3\xa8", b"\xc4\xa9", b"e", b"", b"\xc3\xa9\xc3\xa9")
        self.fits(b"\xf4\x8f\xbf\xbf", b"\xf4\x8f\xbf\xbf")

    def test_signs_behind_the_backslash_stand_for_themselves(self):
        for sign in SIGNS + b"-":
            self.has_just(b"\\%c" % sign, [sign])
            self.has_just(b"[\\%c]" % sign, [sign])
        self.has_just(b"\\n", b"\x0a")
        self.has_just(b"\\t", b"\x09")
        self.has_just(b"[\\n\\t]", b"\x0a\x09")

    def test_dot_has_every_value(self):
        self.has_just(b".", range(0x80))
        self.fits(b".", b"\n", b"\xc2\x80", b"\xed\x9f\xbf", b"\xee\x80\x80", b"\xf4\x8f\xbf\xbf")
        self.fits_none(b".", b"", b"aa")

    def test_listed_values(self):
        beyond = (b"\xc2\x80", b"\xc2\x85", b"\xc2\xa0", b"\xc3\xa9", b"\xd9\xa0", b"\xe3\x80\x80", b"\xf4\x8f\xbf\xbf")
        for (small, having) in ((b"d", FIGURE_BYTES), (b"w", WORD_BYTES), (b"s", BLANK_BYTES)):
            others = set(range(0x80)) - set(having)
            for part in (b"\\" + small, b"[\\" + small + b"]", b"[^\\" + small.upper() + b"]"):
                self.has_just(part, having)
                self.fits_none(part, *beyond)
            for part in (b"\\" + small.upper(), b"[\\" + small.upper() + b"]", b"[^\\" + small + b"]"):
                self.has_just(part, others)
                self.fits(part, *beyond)

    def test_sets(self):
        self.has_just(b"[abc]", b"abc")
        self.has_just(b"[a-c]", b"abc")
        self.has_just(b"[b-b]", b"b")
        self.has_just(b"[^a-c]", set(range(0x80)) - set(b"abc"))
        self.has_just(b"[xa-c0-1\\s]", b"xabc01" + BLANK_BYTES)
        self.has_just(b"[^x\\Da-z]", FIGURE_BYTES)
        self.has_just(b"[\\d\\D]", range(0x80))
        self.has_just(b"[^\\d\\D]", b"")
        self.has_just(b"[\\t-\\n]", b"\x09\x0a")
        self.has_just(b"[\\(-\\+]", b"()*+")
        self.has_just(b"[.*+?|{}()<>$]", b".*+?|{}()<>$")
        self.has_just(b"[\\^a]", b"^a")
        self.has_just(b"[,-.]", b",-.")
        self.fits(b"[\xc3\xa0-\xc3\xaf]", b"\xc3\xa0", b"\xc3\xa9", b"\xc3\xaf")
        self.fits_none(b"[\xc3\xa0-\xc3\xaf]", b"\xc3\x9f", b"\xc3\xb0", b"a")
        self.fits(b"[^a]", b"\xc3\xa9")
        self.fits_none(b"[^a]", b"", b"bb")

    def test_values_are_scalar_values(self):
        self.fits(b"..", b"\xc3\xa9\xf0\x9f\x98\x80")
        self.fits(b"[^a]{3}", b"\xc3\xa9\xe2\x82\xac\xf0\x9f\x98\x80")
        self.fits(b"[\xc3\xa9-\xf0\x9f\x98\x80]", b"\xe2\x82\xac")


class Standpoints(WholeCase):

    def test_begin_and_end(self):
        self.fits(b"^", b"")
        self.fits(b"$", b"")
        self.fits(b"^$", b"")
        self.fits(b"$^", b"")
        self.fits(b"^^a$$", b"a")
        self.fits(b"(^a|b)*", b"abb")
        self.fits_none(b"(^a)*", b"aa")
        self.fits_none(b"a^b", b"ab")
        self.fits_none(b"a$b", b"ab")
        self.fits_none(b"a\n^b", b"a\nb")
        self.fits_none(b"a$\nb", b"a\nb")
        self.fits_none(b"a$\n", b"a\n")

    def test_edge_of_a_word(self):
        self.fits(b"\\ba\\b", b"a")
        self.fits(b"\\b\\w+\\b \\b\\w+\\b", b"ab _9")
        self.fits(b"\xc3\xa9\\ba", b"\xc3\xa9a")
        self.fits(b"a\\b\xc3\xa9", b"a\xc3\xa9")
        self.fits_none(b"\\b", b"")
        self.fits_none(b"a\\ba", b"aa")
        self.fits_none(b"_\\b0", b"_0")
        self.fits_none(b"\\b ", b" ")
        self.fits_none(b" \\b", b" ")
        self.fits_none(b"\xc3\xa9\\b", b"\xc3\xa9")

    def test_they_may_be_repeated(self):
        self.fits(b"^*a", b"a")
        self.fits(b"a^*b", b"ab")
        self.fits(b"^{2}a$+", b"a")
        self.fits(b"a\\b?b", b"ab")
        self.fits_none(b"a^+b", b"ab")
        self.fits_none(b"a\\b{1,2}b", b"ab")


class RowsAndRepetitions(WholeCase):

    def test_rows(self):
        self.fits(b"", b"")
        self.fits_none(b"", b"a")
        self.fits(b"ab|c|", b"ab", b"c", b"")
        self.fits_none(b"ab|c|", b"a", b"b", b"abc", b"ac")
        self.fits(b"a(b|)c", b"abc", b"ac")
        self.fits_none(b"a(b|)c", b"abbc", b"a")
        self.fits(b"()", b"")
        self.fits(b"((a)(b))", b"ab")

    def test_how_often(self):
        counts = {
            b"*": range(30), b"+": range(1, 30), b"?": (0, 1), b"{0}": (0,), b"{1}": (1,), b"{3}": (3,),
            b"{0,}": range(30), b"{1,}": range(1, 30), b"{3,}": range(3, 30), b"{20}": (20,),
            b"{20,}": range(20, 30), b"{0,0}": (0,), b"{0,2}": (0, 1, 2), b"{2,3}": (2, 3), b"{2,2}": (2,),
            b"{0,20}": range(21), b"{19,20}": (19, 20),
        }
        for (sign, fitting) in counts.items():
            for body in (b"a", b"[^b]", b"(a)", b"(a|b)", b"(b|a)", b"(a|)"):
                for count in range(30):
                    # A body that may be empty makes up for whatever is missing.
                    wanted = count in fitting or (body == b"(a|)" and count < min(fitting))
                    self.answers(body + sign, b"a" * count, [int(wanted)])

    def test_repetitions_are_of_the_last_atom_alone(self):
        self.fits(b"ab*", b"a", b"abb")
        self.fits_none(b"ab*", b"abab")
        self.fits(b"(ab)*", b"", b"abab")
        self.fits_none(b"(ab)*", b"abb")
        self.fits(b"a|b+", b"a", b"bb")
        self.fits_none(b"a|b+", b"aa")
        self.fits(b"\\n+", b"\n\n")
        self.fits(b"(a){2}", b"aa")

    def test_repetitions_within_one_another(self):
        self.fits(b"((a{2}){3}b)*", b"", b"aaaaaab", b"aaaaaabaaaaaab")
        self.fits_none(b"((a{2}){3}b)*", b"aaaaab", b"aaaaaa")
        self.fits(b"(a{2}|a{3}){2}", b"aaaa", b"aaaaa", b"aaaaaa")
        self.fits_none(b"(a{2}|a{3}){2}", b"aaa", b"aaaaaaa")

    def test_numbers_do_not_stop_the_search(self):
        self.answers(b"a{2,3}", b"aaaa", [0])
        self.answers(b"a{2,3}a", b"aaa", [1])
        self.answers(b"(a|ab)(c|bcd)(d*)", b"abcd", [1])


class Captures(WholeCase):

    def test_first_way_to_the_end(self):
        self.answers(b"<x a*><y a*>", b"aa", [1, 0, 2, 2, 2])
        self.answers(b"<x a?><y a*>", b"aa", [1, 0, 1, 1, 2])
        self.answers(b"<x a{1,2}><y a*><z a>", b"aaaa", [1, 0, 2, 2, 3, 3, 4])
        self.answers(b"<x a|ab>(c|bcd)", b"abcd", [1, 0, 1])
        self.answers(b"<x ab|a>(c|bcd)", b"abcd", [1, 0, 1])
        self.answers(b"<x |a><y |a>", b"a", [1, 0, 0, 0, 1])
        self.answers(b"<x a|><y |a>", b"a", [1, 0, 1, 1, 1])
        self.answers(b"<x a>|<y a>", b"a", [1, 0, 1, -1, -1])
        self.answers(b"(<x a>|<y ab>)(c|bcd)(d*)", b"abcd", [1, 0, 1, -1, -1])
        self.answers(b"<x a>", b"b", [0])
        self.answers(b"<x a>", b"ab", [0])

    def test_order_of_the_names_is_that_of_their_opening_signs(self):
        self.answers(b"<z a><a b>", b"ab", [1, 0, 1, 1, 2])
        self.answers(b"<out a<in b>c>", b"abc", [1, 0, 3, 1, 2])
        self.answers(b"<a <b <c x>>>", b"x", [1, 0, 1, 0, 1, 0, 1])

    def test_what_was_captured_stays_until_the_same_name_captures(self):
        self.answers(b"(<x a>|<y b>)*", b"ab", [1, 0, 1, 1, 2])
        self.answers(b"(<x a>|<y b>)*", b"b", [1, -1, -1, 0, 1])
        self.answers(b"(<x a>|<y b>)*", b"abaa", [1, 3, 4, 1, 2])
        self.answers(b"(<x a>|<y b>)*", b"", [1, -1, -1, -1, -1])
        self.answers(b"<o (<x a>|b)>*", b"ab", [1, 1, 2, 0, 1])

    def test_what_another_way_captured_is_none(self):
        self.answers(b"(<x a>b|a<y c>)", b"ac", [1, -1, -1, 1, 2])
        self.answers(b"(<x a*>b|<y a*>c)", b"aac", [1, -1, -1, 0, 2])

    def test_rounds_that_end_where_they_began(self):
        self.answers(b"(<x a*>)*", b"aa", [1, 0, 2])
        self.answers(b"(<x a*>)*", b"", [1, -1, -1])
        self.answers(b"(<x a*>)+", b"", [1, 0, 0])
        self.answers(b"(<x a*>)+", b"aa", [1, 0, 2])
        self.answers(b"(<x a?>){2,3}", b"a", [1, 1, 1])
        self.answers(b"(<x a?>){2,3}", b"aa", [1, 1, 2])
        self.answers(b"(<x a?>){2,3}", b"aaa", [1, 2, 3])
        self.answers(b"(<x |a>){2}", b"a", [1, 0, 1])
        self.answers(b"(<x |a>){2,3}", b"a", [1, 0, 1])
        self.answers(b"(<x >|<y a>)*", b"a", [1, -1, -1, 0, 1])
        self.answers(b"(<x >|<y a>)+", b"a", [1, 0, 0, 0, 1])
        self.answers(b"(<x a>|<y >)*", b"a", [1, 0, 1, -1, -1])
        self.answers(b"<x a*>?", b"", [1, -1, -1])
        self.answers(b"<x a*>{0,1}b", b"b", [1, -1, -1])
        self.answers(b"<x ^>*a", b"a", [1, -1, -1])

    def test_bodies_that_never_take_a_value(self):
        self.answers(b"<x >*", b"", [1, -1, -1])
        self.answers(b"<x >?", b"", [1, -1, -1])
        self.answers(b"<x >{0,20}", b"", [1, -1, -1])
        self.answers(b"<x >+", b"", [1, 0, 0])
        self.answers(b"<x >{3}", b"", [1, 0, 0])
        self.answers(b"<x >{3,}", b"", [1, 0, 0])
        self.answers(b"<x >{3,5}a", b"a", [1, 0, 0])
        self.answers(b"a(<x >|<y >){20}b", b"ab", [1, 1, 1, -1, -1])
        self.answers(b"(<x a{0}>){2}", b"", [1, 0, 0])

    def test_no_times(self):
        self.answers(b"(<x a>){0}", b"", [1, -1, -1])
        self.answers(b"(<x a>){0}", b"a", [0])
        self.answers(b"(<x >){0,0}<y a>", b"a", [1, -1, -1, 0, 1])

    def test_spans_are_in_bytes(self):
        self.answers(b"<x \xc3\xa9><y .><z .*>", b"\xc3\xa9\xf0\x9f\x98\x80ab", [1, 0, 2, 2, 6, 6, 8])

    def test_sixteen_names(self):
        pattern = b"".join(b"<%c .>" % letter for letter in b"ponmlkjihgfedcba")
        spans = [place for begin in range(16) for place in (begin, begin + 1)]
        self.answers(pattern, b"x" * 16, [1] + spans)


class Refusals(WholeCase):

    def test_too_long(self):
        self.answers(b"a" * 128, b"a" * 128, [1])
        self.answers(b".*", b"\xc3\xa9" * 64, [1])
        self.answers(b"a" * 129, b"", [-2])
        self.answers(b"", b"a" * 129, [-2])
        self.answers(b".*", b"\xc3\xa9" * 65, [-2])
        self.answers(b"a" * 1000, b"a" * 1000, [-2])
        self.answers(b"(" * 129, b"a", [-2])
        self.answers(b"(", b"a" * 129, [-2])
        self.answers(b"a" * 129, b"\xff", [-2])
        self.answers(b"a", b"\xff" * 129, [-2])

    def test_no_pattern(self):
        for pattern in (b"(", b"a)", b"*", b"a{21}", b"<a b><a c>", b"(" * 41, b"[b-a]", b"(a{20}){11}", b"\x80"):
            self.answers(pattern, b"a", [-6])
            self.answers(pattern, b"", [-6])

    def test_text_that_is_no_utf8(self):
        faulty = (
            b"\x80", b"\xbf", b"\xc0\x80", b"\xc1\xbf", b"\xe0\x9f\xbf", b"\xed\xa0\x80", b"\xed\xbf\xbf",
            b"\xf0\x8f\xbf\xbf", b"\xf4\x90\x80\x80", b"\xf5\x80\x80\x80", b"\xff", b"\xc3", b"\xe2\x82", b"\xc3a",
            b"\xf0\x9f\x98", b"a\x80", b"\xc3\xa9\xa9", b"a" * 127 + b"\xc3",
        )
        for text in faulty:
            self.answers(b"a", text, [-6])
            self.answers(b".*", text, [-6])
            self.answers(b"(", text, [-6])


class EachCallByItself(WholeCase):

    def test_nothing_is_kept(self):
        for round_of_calls in range(3):
            self.answers(b"(<x a>|<y b>)*", b"ab", [1, 0, 1, 1, 2])
            self.answers(b"(<x a>|<y b>)*", b"b", [1, -1, -1, 0, 1])
            self.answers(b"(", b"b", [-6])
            self.answers(b"<x b>", b"b", [1, 0, 1])

    def test_what_is_handed_in_is_not_changed(self):
        calls = (
            (b"<x [^a-z\\d]*>(.|\\b){2,3}", b"\xc3\xa9 a"), (b"(", b"a"), (b"a", b"\xff"), (b"a" * 129, b"a"), (b"", b""),
        )
        for (pattern, text) in calls:
            given = (Unchangeable(pattern), Unchangeable(text))
            whole(*given)
            self.assertEqual([list(one) for one in given], [list(pattern), list(text)])


if __name__ == "__main__":
    unittest.main()
