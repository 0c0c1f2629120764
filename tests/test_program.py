"""What holds of the whole program: of all its calls, one behind another and each by itself."""

import importlib
import inspect
import itertools
import os
import random
import subprocess
import sys
import unittest

from helping import Unchangeable
from toldpatterns import patterns

LARGEST = 10 ** 18
LONG = b"a" * 128
TOO_LONG = b"a" * 129

# Each call with what is handed in, and its answer.
ANSWERS = (
    ("judge", (b"<ab x>|(<c9_ y>)",), [2]),
    ("judge", (b"",), [0]),
    ("judge", (b"a{3,2}",), [-6, 3, 4]),
    ("judge", (TOO_LONG,), [-2]),
    ("name", (1, b"<ab x>|(<c9_ y>)"), [0, 9, 3]),
    ("name", (LARGEST, b"<ab x>"), [-4]),
    ("name", (0, b"<ab x"), [-6]),
    ("name", (0, TOO_LONG), [-2]),
    ("whole", (b"(<x a>|<y [^b]>)*\\b", b"a\xc3\xa9a"), [1, 3, 4, 1, 3]),
    ("whole", (b"<x a>", b"b"), [0]),
    ("whole", (b"a", b"\xc3"), [-6]),
    ("whole", (b"a", TOO_LONG), [-2]),
    ("find", (1, b"<x a*>", b"baa"), [1, 1, 3, 1, 3]),
    ("find", (0, b"c", b"baa"), [0]),
    ("find", (4, b"c", b"baa"), [-1]),
    ("find", (0, b"{", b"baa"), [-6]),
    ("find", (0, b"c", TOO_LONG), [-2]),
    ("all_of", (b"a*", b"baab"), [3, 0, 0, 1, 3, 4, 4]),
    ("all_of", (b"c", b"baab"), [0]),
    ("all_of", (b"[]", b"baab"), [-6]),
    ("all_of", (TOO_LONG, b"baab"), [-2]),
    ("put", (b"<x a>|<y b>", b"ab", b"[$x,$y]"), [0] + list(b"[a,][,b]")),
    ("put", (b"c", b"ab", b"$0"), [0, 97, 98]),
    ("put", (b"<x a>", b"ab", b"$x$y"), [-5, 2]),
    ("put", (b".", LONG, b"b" * 65), [-9]),
    ("put", (b"a", b"\xff", b"$"), [-6]),
    ("put", (b"a", b"ab", TOO_LONG), [-2]),
    ("split", (b",", b"a,b,,c"), [4, 0, 1, 2, 3, 4, 4, 5, 6]),
    ("split", (b"c", b"ab"), [1, 0, 2]),
    ("split", (b")", b"ab"), [-6]),
    ("split", (b",", TOO_LONG), [-2]),
)


def handed_in(arguments, kind=list):
    return [kind(one) if isinstance(one, bytes) else one for one in arguments]


def answer_of(call, arguments):
    return getattr(patterns, call)(*handed_in(arguments))


def own_modules():
    return {name: module for (name, module) in sys.modules.items() if name.split(".")[0] == "toldpatterns"}


class EachCallByItself(unittest.TestCase):

    def test_answers(self):
        self.assertEqual({call for (call, arguments, answer) in ANSWERS}, {
            "judge", "name", "whole", "find", "all_of", "put", "split"})
        for (call, arguments, answer) in ANSWERS:
            with self.subTest(call=call, arguments=arguments):
                self.assertEqual(answer_of(call, arguments), answer)

    def test_whatever_was_called_before(self):
        chance = random.Random(2)
        orders = [list(ANSWERS), list(reversed(ANSWERS))] + [chance.sample(ANSWERS, len(ANSWERS)) for count in range(8)]
        for (call, arguments, answer) in itertools.chain(*orders):
            self.assertEqual(answer_of(call, arguments), answer, (call, arguments))

    def test_as_if_for_the_first_time(self):
        known = own_modules()
        try:
            for (call, arguments, answer) in ANSWERS:
                for name in known:
                    sys.modules.pop(name, None)
                first = getattr(importlib.import_module("toldpatterns.patterns"), call)
                self.assertIsNot(first, getattr(patterns, call))
                for count in range(3):
                    self.assertEqual(first(*handed_in(arguments)), answer, (call, arguments))
        finally:
            sys.modules.update(known)

    def test_nothing_at_the_top_of_a_file_changes(self):
        before = self.kept_at_the_top()
        for (call, arguments, answer) in ANSWERS:
            answer_of(call, arguments)
        self.assertEqual(self.kept_at_the_top(), before)

    def kept_at_the_top(self):
        kept = {}
        for (file, module) in own_modules().items():
            for (name, value) in vars(module).items():
                # What Python itself puts there is its own matter.
                if name.startswith("__"):
                    continue
                kept[(file, name)] = repr(value)
                for (key, part) in getattr(value, "__dict__", {}).items():
                    kept[(file, name, key)] = repr(part)
                if inspect.isfunction(value):
                    kept[(file, name, "defaults")] = repr(value.__defaults__)
        return kept

    def test_an_answer_is_the_callers_own(self):
        for (call, arguments, answer) in ANSWERS:
            given = handed_in(arguments)
            first = getattr(patterns, call)(*given)
            self.assertFalse([one for one in given if one is first])
            first.append(7)
            first[0] = 7
            self.assertEqual(given, handed_in(arguments))
            self.assertEqual(answer_of(call, arguments), answer)

    def test_one_list_handed_in_for_all(self):
        same = Unchangeable(b"a|$$|")
        self.assertEqual(patterns.whole(same, same), [0])
        self.assertEqual(patterns.find(1, same, same), [1, 1, 1])
        self.assertEqual(patterns.all_of(same, same), [5, 0, 1, 2, 2, 3, 3, 4, 4, 5, 5])
        self.assertEqual(patterns.put(same, same, same), [0] + list(b"a|$||a|$|$a|$|$a|$||a|$|"))
        self.assertEqual(patterns.split(same, same), [6, 0, 0, 1, 2, 2, 3, 3, 4, 4, 5, 5, 5])

    def test_what_is_handed_in_is_not_changed(self):
        for (call, arguments, answer) in ANSWERS:
            given = handed_in(arguments, Unchangeable)
            self.assertEqual(getattr(patterns, call)(*given), answer)
            self.assertEqual([list(one) if isinstance(one, list) else one for one in given], handed_in(arguments))


WATCHED = """
import sys

watching = []


def refuse(event, details):
    if watching:
        watching.clear()
        raise SystemExit("it reads, writes or imports: " + event)


class NothingToRead:

    def __getattr__(self, name):
        raise SystemExit("it reads: " + name)


import test_program

sys.addaudithook(refuse)
sys.stdin = NothingToRead()
for (call, arguments, answer) in test_program.ANSWERS:
    given = test_program.handed_in(arguments)
    asked = getattr(test_program.patterns, call)
    watching.append(True)
    found = asked(*given)
    watching.clear()
    if found != answer:
        raise SystemExit("another answer: " + call)
"""

IMPORTED = """
import sys
before = set(sys.modules)
import toldpatterns.patterns
others = [name for name in set(sys.modules) - before if name.split(".")[0] != "toldpatterns"]
if others:
    raise SystemExit("it imports " + str(others))
"""


class Alone(unittest.TestCase):

    def runs_silently(self, code):
        environment = dict(os.environ, PYTHONPATH=os.pathsep.join(path for path in sys.path if path))
        run = subprocess.run(
            [sys.executable, "-B", "-c", code], env=environment, stdin=subprocess.DEVNULL, capture_output=True, text=True,
        )
        self.assertEqual((run.stdout, run.stderr, run.returncode), ("", "", 0))

    def test_it_prints_reads_and_imports_nothing(self):
        self.runs_silently(WATCHED)

    def test_the_package_needs_no_other(self):
        self.runs_silently(IMPORTED)


class RefusalsInOrder(unittest.TestCase):

    def answers(self, call, arguments, answer):
        with self.subTest(call=call, arguments=arguments):
            self.assertEqual(answer_of(call, arguments), answer)

    def test_every_length_above_128(self):
        for length in itertools.chain(range(129, 1000, 67), (1000,)):
            for byte in (b"a", b"(", b"\xff", b"$"):
                long = byte * length
                self.answers("judge", (long,), [-2])
                self.answers("name", (-1, long), [-2])
                self.answers("whole", (long, b""), [-2])
                self.answers("whole", (b"(", long), [-2])
                self.answers("find", (-1, long, b"\xff"), [-2])
                self.answers("find", (-1, b"(", long), [-2])
                self.answers("all_of", (long, b"\xff"), [-2])
                self.answers("all_of", (b"(", long), [-2])
                self.answers("put", (long, b"\xff", b"$"), [-2])
                self.answers("put", (b"(", long, b"$"), [-2])
                self.answers("put", (b"(", b"\xff", long), [-2])
                self.answers("split", (long, b"\xff"), [-2])
                self.answers("split", (b"(", long), [-2])

    def test_128_bytes_are_not_too_long(self):
        self.answers("judge", (LONG,), [0])
        self.answers("name", (0, LONG), [-4])
        self.answers("whole", (LONG, LONG), [1])
        self.answers("find", (128, LONG, LONG), [0])
        self.answers("all_of", (LONG, LONG), [1, 0, 128])
        self.answers("put", (LONG, LONG, b"b" * 128), [0] + [98] * 128)
        self.answers("split", (LONG, LONG), [2, 0, 0, 128, 128])

    def test_not_in_form_comes_next(self):
        for k in (0, 1, -1, LARGEST, -LARGEST):
            self.answers("name", (k, b"("), [-6])
            self.answers("find", (k, b"(", b"a"), [-6])
            self.answers("find", (k, b"a", b"\xff"), [-6])
        for replacing in (b"$0", b"$", b"$q", LONG):
            self.answers("put", (b"(", LONG, replacing), [-6])
            self.answers("put", (b".", LONG[1:] + b"\xff", replacing), [-6])

    def test_then_what_is_not_there(self):
        for k in (1, 2, -1, LARGEST, -LARGEST):
            self.answers("name", (k, b"<x a>"), [-4])
            self.answers("find", (k, b"a", b""), [-1])
        self.answers("put", (b".", LONG, b"b" * 126 + b"$q"), [-5, 126])
        self.answers("put", (b".", LONG, b"b" * 128), [-9])


class AnyBytes(unittest.TestCase):

    def is_text(self, given):
        try:
            bytes(given).decode()
        except UnicodeDecodeError:
            return False
        return True

    def check(self, given):
        """As a text the bytes are in form if they are UTF-8; then each value is a match of the dot."""
        if not self.is_text(given):
            answers = ([-6], [-6], [-6])
        else:
            values = [len(value.encode()) for value in bytes(given).decode()]
            ends = list(itertools.accumulate(values, initial=0))
            spans = [place for span in zip(ends, ends[1:]) for place in span]
            answers = ([len(values)] + spans, [0] + list(given), [len(values) + 1, 0] + spans + [len(given)])
        dot = list(b".")
        found = (patterns.all_of(dot, given), patterns.put(dot, given, list(b"$0")), patterns.split(dot, given))
        self.assertEqual(found, answers, given)

    def test_texts_of_one_and_two_bytes(self):
        for first in range(256):
            self.check([first])
        for (first, second) in itertools.product(range(0x70, 0x100), range(0x70, 0x100)):
            self.check([first, second])

    def test_texts_of_more_bytes(self):
        edges = (0x00, 0x7F, 0x80, 0x8F, 0x90, 0x9F, 0xA0, 0xBF, 0xC0, 0xFF)
        for first in range(0xDF, 0xF6):
            for (second, third) in itertools.product(edges, edges):
                self.check([first, second, third])
                self.check([first, second, third, 0x80])
                self.check([first, second, 0x80, third])

    def test_patterns_and_replacing_texts(self):
        chance = random.Random(3)
        for count in range(3000):
            (p, t, r) = [[chance.randrange(256) for byte in range(chance.randrange(4))] for one in range(3)]
            names = patterns.judge(p)
            in_form = names[0] >= 0 and self.is_text(t)
            self.assertEqual(patterns.all_of(p, t) == [-6], not in_form)
            self.assertEqual(patterns.split(p, t) == [-6], not in_form)
            self.assertEqual(patterns.whole(p, t) == [-6], not in_form)
            self.assertEqual(patterns.find(0, p, t) == [-6], not in_form)
            self.assertEqual(patterns.put(p, t, r) == [-6], not in_form)
            self.assertEqual(patterns.name(0, p), [-6] if names[0] < 0 else [-4])


PIECES = (
    b"a", b"b", b".", b"(", b")", b"(a|ab)", b"|", b"*", b"+", b"?", b"{2}", b"{0,2}", b"\\b", b"^", b"$", b"[^a]", b"(b*)",
    b"<x a|b>", b"<y ", b">", b"\xc3\xa9", b"\\W",
)
VALUES = (b"a", b"a", b"b", b"b", b" ", b"\xc3\xa9", b"\xf0\x9f\x98\x80")


class Promises(unittest.TestCase):

    def patterns_and_texts(self, most):
        chance = random.Random(4)
        count = 0
        while count < most:
            pattern = list(b"".join(chance.choice(PIECES) for piece in range(chance.randrange(9))))
            # Not all pieces in any order are a pattern.
            if patterns.judge(pattern)[0] >= 0:
                count += 1
                yield (pattern, list(b"".join(chance.choice(VALUES) for value in range(chance.randrange(9)))))

    def spans(self, numbers):
        return [tuple(numbers[at:at + 2]) for at in range(0, len(numbers), 2)]

    def places(self, text):
        return [at for at in range(len(text) + 1) if patterns.find(at, [], text) != [-1]]

    def ends(self, pattern, text, begin):
        """Where ways from the place end, as whole tells when it's told how many values are before and behind them."""
        places = self.places(text)
        fitting = []
        for end in places:
            before = b".{%d}(" % places.index(begin)
            behind = b").{%d}" % (len(places) - 1 - places.index(end))
            if end >= begin and patterns.whole(list(before) + pattern + list(behind), text)[0] == 1:
                fitting.append(end)
        return fitting

    def test_what_is_found_begins_first_and_ends_last(self):
        several = 0
        for (pattern, text) in self.patterns_and_texts(700):
            first = [0]
            for at in reversed(self.places(text)):
                ends = self.ends(pattern, text, at)
                if ends:
                    first = [1, at, max(ends)]
                several += len(ends) > 1
                self.assertEqual(patterns.find(at, pattern, text)[:3], first, (bytes(pattern), bytes(text), at))
        self.assertGreater(several, 100)

    def test_matches_share_no_value_and_between_them_there_is_none(self):
        several = 0
        for (pattern, text) in self.patterns_and_texts(800):
            matches = self.spans(patterns.all_of(pattern, text)[1:])
            several += len(matches) > 2
            for (one, next_one) in zip(matches, matches[1:]):
                self.assertLessEqual(one[1], next_one[0])
                self.assertNotEqual(next_one, (one[1], one[1]))
            for at in self.places(text):
                if not any(begin < at < end for (begin, end) in matches):
                    self.check_next(pattern, text, at, matches)
        self.assertGreater(several, 200)

    def check_next(self, pattern, text, at, matches):
        found = self.spans(patterns.find(at, pattern, text)[1:3])
        # An empty one behind a match wasn't left for it.
        if found != [(at, at)] or not any(begin < end == at for (begin, end) in matches):
            self.assertEqual(found, [match for match in matches if match[0] >= at][:1], (bytes(pattern), bytes(text), at))

    def test_replaced_by_what_matched_a_text_is_as_it_was(self):
        for (pattern, text) in self.patterns_and_texts(800):
            self.assertEqual(patterns.put(pattern, text, list(b"$0")), [0] + text, (bytes(pattern), bytes(text)))

    def test_replaced_by_nothing_only_the_parts_are_left(self):
        for (pattern, text) in self.patterns_and_texts(800):
            parts = self.spans(patterns.split(pattern, text)[1:])
            left = [byte for (begin, end) in parts for byte in text[begin:end]]
            self.assertEqual(patterns.put(pattern, text, []), [0] + left, (bytes(pattern), bytes(text)))


if __name__ == "__main__":
    unittest.main()
