"""Each call answers within a moment, however many ways there are, and lies only so deep within itself."""

import itertools
import sys
import unittest

from helping import within
from toldpatterns.patterns import all_of, find, judge, name, put, split, whole

# A moment is far shorter; this is for slow machines.
MOMENT = 3

LONG = b"a" * 128

WAYS_WITHOUT_END = (
    b"(a*)*", b"((a|a)*)*", b"(a?){20}(a{0,20}){0,8}", b"(a*){20}", b"((a*)*|a|(a|aa)*)*", b"(((((a*)*)*)*)*)*",
    b"(a*a*)*a*(a|aa|aaa)*", b"(a?){20}(a?){20}(a?){20}(a?){20}a*", b"(|a|aa){0,20}(|a)*", b".*" * 60,
    b"(" * 40 + b"a" + b")*" * 40, b"(" * 40 + b"a" + b")+" * 40, b"(" * 24 + b"a?" + b"|)+" * 24,
    b"(|" * 30 + b"a" + b")+" * 30, b"(" * 24 + b"a" + b"a?)*" * 24, b"(a|" * 24 + b"a" + b")*" * 24,
)
LARGE = (
    b"a*" * 64, b"(a*){0,20}" * 10, b"(a+|){20}" * 10, b"(a*a*a*){0,20}" * 3, b"((a*){2}){2}" * 10,
    b"(((((((a?){0,2}){0,2}){0,2}){0,2}){0,2}){0,2}){0,2}", b"(.{6}.*){0,20}", b"((a{0,20}){0,10}){0,1}",
    b"(" * 20 + b"a*" + b"){20}" * 19 + b"){0}.*", b"(a*){20}" * 10,
)

SIXTEEN = b"".join(b"<%c >" % letter for letter in b"abcdefghijklmnop")

# Rounds without a value, in many matches or many rounds.
MANY_ROUNDS = (
    b"((" + b"()" * 50 + b"\\b){20}){10}", b"(((" + b"()" * 48 + b"(|a)){20}){10})*", b"((" + SIXTEEN + b"\\b){20}){10}",
    b"(((" + SIXTEEN + b"(|a)){20}){10})*", b"(((" + b"|" * 100 + b"a){20}){10})*", b"((((|a*)){20}){10})*",
    b"((|a){20}){10}", b"(((((|a){5}){5}){2}){2}){2}", b"((|<x a>){10}){20}", b"(a?){20}" * 10, b"((((((|a)+)+)+)+)+){20}",
    b"(" * 30 + b"|." + b"){2}" * 7 + b")+" * 23, b"((((\\b){20}){5}){2})*", b"",
)


def depth():
    frame = sys._getframe()
    count = 0
    while frame is not None:
        frame = frame.f_back
        count += 1
    return count


class Moment(unittest.TestCase):

    def both(self, pattern, text):
        with self.subTest(pattern=pattern), within(MOMENT):
            return (find(0, list(pattern), list(text)), whole(list(pattern), list(text)))

    def test_where_none_of_the_ways_ends(self):
        for pattern in WAYS_WITHOUT_END:
            self.assertEqual(self.both(pattern + b"b", LONG), ([0], [0]))
        self.assertEqual(self.both(b"<x a*><y a*><z a*>b", LONG), ([0], [0]))

    def test_where_all_of_the_ways_end(self):
        for pattern in (b"(a*)*", b"((a|a)*)*", b"(a{0,20}){0,8}a*") + WAYS_WITHOUT_END[3:] + LARGE:
            spans = self.both(pattern, LONG)
            self.assertEqual(spans, ([1, 0, 128], [1]), pattern)

    def test_captures_of_ways_without_end(self):
        answer = self.both(b"<x a*><y a*><z a*>b", LONG[:127] + b"b")
        spans = [0, 127, 127, 127, 127, 127]
        self.assertEqual(answer, ([1, 0, 128] + spans, [1] + spans))
        answer = self.both(b"(<x (a|aa)*>|<y a>)*b", LONG[:127] + b"b")
        self.assertEqual(answer, ([1, 0, 128, 0, 127, -1, -1], [1, 0, 127, -1, -1]))

    def test_rounds_without_a_value_within_one_another(self):
        empty = b"(" * 20 + b"<x >" + b"){20}" * 20
        self.assertEqual(self.both(empty, b""), ([1, 0, 0, 0, 0], [1, 0, 0]))
        self.assertEqual(self.both(empty, LONG), ([1, 0, 0, 0, 0], [0]))
        self.assertEqual(self.both(b"(" * 19 + b"<x >|a{0}" + b"){9,}" * 19, b""), ([1, 0, 0, 0, 0], [1, 0, 0]))
        self.assertEqual(self.both(b"(" * 24 + b"<x ^>" + b")*" * 24, LONG), ([1, 0, 0, -1, -1], [0]))
        self.assertEqual(self.both(b"(" * 24 + b"<x ^>" + b")+" * 24, LONG), ([1, 0, 0, 0, 0], [0]))

    def test_all_matches(self):
        for pattern in WAYS_WITHOUT_END + LARGE + MANY_ROUNDS:
            for text in (LONG, b"b" * 128, b"a " * 64):
                given = (list(pattern), list(text))
                with self.subTest(pattern=pattern, text=text), within(MOMENT):
                    self.assertEqual(put(*given, list(b"$0")), [0] + list(text))
                    self.assertEqual(split(*given)[0], all_of(*given)[0] + 1)

    def test_captures_of_many_matches(self):
        names = b"abcdefghijklmnop"
        pattern = b"".join(b"<%c " % letter for letter in names) + b".?" + b">" * 16
        replacing = b"".join(b"$%c" % letter for letter in names)
        with within(MOMENT):
            made = put(list(pattern), list(b"xy" * 64), list(replacing))
        self.assertEqual(made, [0] + list((b"x" * 16 + b"y" * 16) * 64))

    def test_longest_patterns_and_replacing_texts(self):
        ends = (b"", b"a", b"{", b"}", b"[a", b"|", b"*", b"\\", b"<z", b"\xf0\x9f")
        pieces = (b"a", b"(", b"()", b"[^a]", b"[", b"\\", b"|", b"<a >", b"<", b"a{20}", b"a{", b"9", b"$", b"$$", b"$a", b"\xc3\xa9")
        for (piece, end) in itertools.product(pieces, ends):
            given = list((piece * 128 + end)[-128:])
            with self.subTest(piece=piece, end=end), within(MOMENT):
                fault = judge(given)
                self.assertIn(name(0, given)[0], (0, -4, -6))
                self.assertIn(put(list(b"<a a>"), list(LONG), given)[0], (0, -5, -9))
                self.assertEqual(split(given, list(LONG)) == [-6], fault[0] == -6)

    def test_depth(self):
        deepest = (
            b"(" * 40 + b"a" + b")*" * 40, b"(|" * 30 + b"a" + b")*" * 30, b"(a" * 40 + b")" * 40,
            b"(|a" * 25 + b")*" * 25, b"".join(b"<%c " % letter for letter in b"abcdefghijklmnop") + b">*" * 16,
            b"(" * 40 + b")" * 40, b"a?" * 64,
        )
        limit = sys.getrecursionlimit()
        sys.setrecursionlimit(depth() + 200)
        try:
            for pattern in deepest:
                given = (list(pattern), list(LONG))
                self.assertIn(judge(given[0]), ([0], [16]))
                self.assertIn(name(0, given[0]), ([0, 1, 1], [-4]))
                self.assertIn(whole(*given)[0], (0, 1))
                self.assertEqual(find(0, *given)[:2], [1, 0])
                self.assertEqual(put(*given, list(b"$0")), [0] + list(LONG))
                self.assertEqual(split(*given)[0], all_of(*given)[0] + 1)
            self.assertEqual(judge(list(b"(" * 128)), [-6, 5, 40])
            self.assertEqual(put(list(b"<a .>"), list(LONG), list(b"$a" * 64)), [0] + list(LONG) * 64)
        finally:
            sys.setrecursionlimit(limit)


if __name__ == "__main__":
    unittest.main()
