"""judge: how many names a pattern has, or its first fault."""

import unittest

from helping import Unchangeable
from toldpatterns.patterns import judge

SIGNS = b"|*+?{}.^$\\[]()<>"
SET_SIGNS = b"\\][-^"
SMALL_LETTERS = b"abcdefghijklmnopqrstuvwxyz"
SCALAR_EDGES = (
    0x0, 0x7F, 0x80, 0x7FF, 0x800, 0xFFF, 0x1000, 0xCFFF, 0xD000, 0xD7FF,
    0xE000, 0xFFFF, 0x10000, 0x3FFFF, 0x40000, 0xFFFFF, 0x100000, 0x10FFFF,
)


def one_letter_names(count):
    """`<a >`, `<b >`, .. that many: four bytes each."""
    return b"".join(b"<%c >" % letter for letter in SMALL_LETTERS[:count])


class JudgeCase(unittest.TestCase):

    def has_names(self, count, *patterns):
        for pattern in patterns:
            with self.subTest(pattern=pattern):
                self.assertEqual(judge(list(pattern)), [count])

    def has_fault(self, kind, place, *patterns):
        for pattern in patterns:
            with self.subTest(pattern=pattern):
                self.assertEqual(judge(list(pattern)), [-6, kind, place])


class Patterns(JudgeCase):

    def test_empty_rows(self):
        self.has_names(0, b"", b"|", b"||", b"a|", b"|a", b"()", b"(|)", b"(|a||)")

    def test_length(self):
        self.has_names(0, b"a" * 128)
        for pattern in (b"a" * 129, b"(" * 129, b"\x80" * 129, b"a" * 1000):
            self.assertEqual(judge(list(pattern)), [-2])

    def test_names_are_counted(self):
        self.has_names(1, b"<a >", b"<a b>", b"(<a b>)*", b"<a |b|>{2,3}", b"<a (b)>")
        self.has_names(2, b"<ab x>|(<c9_ y>)", b"<a <b x>>", b"<a ><aa >", b"<a ><a_ >", b"<a1 ><a11 >")
        self.has_names(16, one_letter_names(16))
        self.has_names(1, b"<" + b"a" * 32 + b" x>", b"<z" + b"_9" * 15 + b"a x>")

    def test_which_bytes_a_name_has(self):
        for byte in range(256):
            one = bytes([byte])
            if byte in SMALL_LETTERS:
                self.has_names(1, b"<" + one + b" >")
            else:
                self.has_fault(2, 1, b"<" + one + b" >")
            if byte in SMALL_LETTERS + b"0123456789_":
                self.has_names(1, b"<a" + one + b" >", b"<a" + one + one + b" >")
            elif byte != ord(" "):
                self.has_fault(2, 2, b"<a" + one + b" >")

    def test_every_repetition(self):
        atoms = (b"a", b"\xc3\xa9", b".", b"^", b"$", b"\\b", b"\\d", b"\\*", b"[a-z]", b"(a|b)", b"()")
        signs = (b"*", b"+", b"?", b"{0}", b"{20}", b"{0,}", b"{20,}", b"{0,0}", b"{0,20}", b"{9,10}", b"{20,20}")
        for atom in atoms:
            for sign in signs:
                self.has_names(0, atom + sign, b"x" + atom + sign + b"y", b"(|" + atom + sign + b")")
                self.has_names(1, b"<n " + atom + sign + b">", b"<n " + atom + b">" + sign)

    def test_every_number(self):
        for number in range(21):
            self.has_names(0, b"a{%d}" % number, b"a{%d,}" % number, b"a{%d,20}" % number, b"a{0,%d}" % number)
            self.has_names(0, b"a{%d,%d}" % (number, number))

    def test_plain_values(self):
        for byte in range(128):
            if byte not in SIGNS:
                self.has_names(0, bytes([byte]), bytes([byte, byte]) + b"+")
        for value in SCALAR_EDGES[2:]:
            self.has_names(0, chr(value).encode(), b"a" + chr(value).encode() + b"*")

    def test_plain_values_of_sets(self):
        for byte in range(128):
            one = bytes([byte])
            if byte not in SET_SIGNS:
                self.has_names(0, b"[" + one + b"]", b"[^" + one + b"]", b"[\\d" + one + b"-" + one + b"]")
        for value in SCALAR_EDGES[2:]:
            one = chr(value).encode()
            self.has_names(0, b"[" + one + b"]", b"[^" + one + one + b"]", b"[" + one + b"-" + one + b"z]")

    def test_what_stands_behind_the_backslash(self):
        for byte in range(256):
            escape = b"\\" + bytes([byte])
            outside = byte in SIGNS + b"-ntdwsDWSb"
            in_sets = outside and byte != ord("b")
            as_end = in_sets and byte not in b"dwsDWS"
            patterns = (
                (outside, escape, 1), (outside, b"a" + escape + b"*", 2), (in_sets, b"[" + escape + b"]", 2),
                (in_sets, b"[^a" + escape + b"]", 4), (as_end, b"[\\t-" + escape + b"]", 5),
            )
            for (holds, pattern, place) in patterns:
                if holds:
                    self.has_names(0, pattern)
                else:
                    self.has_fault(2, place, pattern)

    def test_sets(self):
        self.has_names(0, b"[a]", b"[^a]", b"[ab-cd]", b"[a-a]", b"[\\n]", b"[^\\^\\-\\]\\[\\\\]", b"[|*+?{}.$()<>]")
        self.has_names(0, b"[\\d]", b"[\\d\\w\\s\\D\\W\\S]", b"[\\da-z]", b"[a-z\\d]", b"[\\t-\\n]", b"[\\--\\]]")

    def test_signs_that_stand_for_more_elsewhere_alone(self):
        self.has_names(0, b",", b"a,b", b"0-9", b" ", b"a{2},", b"_-A", b"-*")
        self.has_names(1, b"<a  >", b"<a  *>")

    def test_forty_open_at_once(self):
        self.has_names(0, b"(" * 40 + b")" * 40, (b"(" * 30 + b")" * 30) * 2, b"()" * 64)
        self.has_names(1, b"(" * 39 + b"<a >" + b")" * 39)


class EndsTooSoon(JudgeCase):

    def test_brackets(self):
        self.has_fault(1, 1, b"(", b"<")
        self.has_fault(1, 2, b"(a", b"(|", b"((")
        self.has_fault(1, 3, b"(()", b"<a ")
        self.has_fault(1, 4, b"<a b", b"(a{2", b"<abc")
        self.has_fault(1, 40, b"(" * 40)

    def test_braces(self):
        self.has_fault(1, 2, b"a{")
        self.has_fault(1, 3, b"a{0", b"a{9")
        self.has_fault(1, 4, b"a{21", b"a{2,", b"a{0,")
        self.has_fault(1, 5, b"a{2,1", b"a{2,0", b"a{100", b"a{2,3")
        self.has_fault(1, 6, b"a{2,21")

    def test_names(self):
        self.has_fault(1, 2, b"<a")
        self.has_fault(1, 34, b"<" + b"a" * 33)
        self.has_fault(1, 7, b"<a b><a")
        self.has_fault(1, 66, one_letter_names(16) + b"<q")

    def test_backslash(self):
        self.has_fault(1, 1, b"\\")
        self.has_fault(1, 2, b"[\\", b"a\\")
        self.has_fault(1, 4, b"[a-\\")

    def test_sets(self):
        self.has_fault(1, 1, b"[")
        self.has_fault(1, 2, b"[a", b"[^")
        self.has_fault(1, 3, b"[a-", b"[\\d")
        self.has_fault(1, 4, b"[a-z", b"[^\\d")

    def test_within_a_scalar_value(self):
        for value in SCALAR_EDGES[2:]:
            whole = chr(value).encode()
            for length in range(1, len(whole)):
                self.has_fault(1, length, whole[:length])
                self.has_fault(1, length + 1, b"[" + whole[:length], b"(" + whole[:length])
                self.has_fault(1, length + 3, b"[a-" + whole[:length])

    def test_before_too_many_atoms(self):
        self.has_fault(1, 12, b"((a{20}){11}")


class CannotStand(JudgeCase):

    def test_signs_that_stand_for_nothing_there(self):
        self.has_fault(2, 0, b")", b">", b"]", b"}", b"}a")
        self.has_fault(2, 1, b"a)", b"a>", b"a]", b"a}", b"a)(")
        self.has_fault(2, 2, b"(a>", b"(a]", b"())", b"()>")
        self.has_fault(2, 3, b"<a )", b"<a ]")
        self.has_fault(2, 4, b"<a (>", b"<a |)", b"(<a )>")

    def test_signs_of_repetition_without_an_atom(self):
        for sign in (b"*", b"+", b"?", b"{2}", b"{", b"{x"):
            self.has_fault(2, 0, sign)
            self.has_fault(2, 1, b"(" + sign, b"|" + sign)
            self.has_fault(2, 2, b"a|" + sign, b"(|" + sign, b"a*" + sign, b"a+" + sign, b"a?" + sign)
            self.has_fault(2, 3, b"<a " + sign, b"()*" + sign, b"(a|" + sign)
            self.has_fault(2, 4, b"a{2}" + sign)
            self.has_fault(2, 5, b"a{2,}" + sign)

    def test_braces(self):
        self.has_fault(2, 2, b"a{}", b"a{,2}", b"a{x", b"a{ 2}", b"a{-1}", b"a{\xc3", b"a{\xc3\xa9}", b"a{)")
        self.has_fault(2, 3, b"a{01}", b"a{00}", b"a{0x", b"a{2 }", b"a{2x", b"a{2\xc3", b"a{2{")
        self.has_fault(2, 4, b"a{2, 3}", b"a{2,,}", b"a{2,x", b"a{2,\xff", b"a{20x")
        self.has_fault(2, 5, b"a{1,2x", b"a{0,01}", b"a{0,00}", b"a{2,3,}", b"a{2,3\xc3")

    def test_backslash(self):
        self.has_fault(2, 1, b"\\q", b"\\a", b"\\ ", b"\\,", b"\\0", b"\\N", b"\\B", b"\\\xc3", b"\\\xc3\xa9")
        self.has_fault(2, 2, b"[\\b]", b"[\\q", b"[\\\xc3")

    def test_sets(self):
        self.has_fault(2, 1, b"[]", b"[]a]", b"[-a]", b"[[a]", b"[-")
        self.has_fault(2, 2, b"[^]", b"[^^]", b"[^-]", b"[a^]", b"[a[]")
        self.has_fault(2, 3, b"[a-]", b"[a--]", b"[a-^]", b"[a-[]", b"[\\d-a]", b"[\\S-]")
        for letter in b"dwsDWS":
            self.has_fault(2, 3, b"[\\%c-a]" % letter, b"[\\%c-\\%c]" % (letter, letter), b"[\\%c-]" % letter)
            self.has_fault(2, 4, b"[ -\\%c]" % letter)
        self.has_fault(2, 4, b"[a-\\d]", b"[a-\\S]", b"[a-\\b]", b"[a-\\q]", b"[a-z-]", b"[a-\\d", b"[b-\\\xc3")

    def test_names(self):
        self.has_fault(2, 1, b"<A b>", b"<1 b>", b"<_ b>", b"< b>", b"<>", b"<\xc3", b"<\xc3\xa9 b>")
        self.has_fault(2, 2, b"<a>", b"<aB c>", b"<a-b c>", b"<a\t>", b"<a\n>", b"<a\xc3", b"<a\xc3\xa9 b>")
        self.has_fault(2, 3, b"<ab)", b"<ab\xff")

    def test_no_utf8(self):
        self.has_fault(2, 0, b"\x80", b"\xbf", b"\xc0", b"\xc1\xbf", b"\xf5\x80", b"\xff")
        self.has_fault(2, 1, b"\xc3\x28", b"\xed\xa0\x80", b"\xe0\x80", b"\xf0\x8f", b"\xf4\x90", b"[\x80", b"[\xff]")
        self.has_fault(2, 2, b"\xe2\x82\x28", b"\xe2\x82\xc3", b"[\xc3]", b"[\xed\xa0\x80]", b"\xf0\x90\x7f")
        self.has_fault(2, 3, b"\xf0\x9f\x98\x28", b"[a-\x80")
        self.has_fault(2, 4, b"[a-\xc3\x28", b"[a-\xc3]")

    def test_first_and_second_bytes_of_scalar_values(self):
        for first in range(0x80, 0x100):
            for second in range(0x100):
                given = bytes([first, second])
                self.assertEqual(judge(list(given)), self.told_by_decoder(given), given)

    def test_third_and_fourth_bytes_of_scalar_values(self):
        of_three = (b"\xe0\xa0", b"\xe1\x80", b"\xed\x9f", b"\xef\xbf")
        of_four = (b"\xf0\x90\x80", b"\xf3\xbf\xbf", b"\xf4\x8f\x80")
        for start in of_three + of_four:
            for last in range(0x100):
                given = start + bytes([last])
                self.assertEqual(judge(list(given)), self.told_by_decoder(given), given)

    def told_by_decoder(self, given):
        try:
            given.decode()
        except UnicodeDecodeError as error:
            if error.reason == "unexpected end of data":
                return [-6, 1, len(given)]
            if error.reason == "invalid start byte":
                return [-6, 2, error.start]
            return [-6, 2, error.end]
        return [0]


class NumbersAndNames(JudgeCase):

    def test_number_above_twenty(self):
        self.has_fault(3, 2, b"a{21}", b"a{21,}", b"a{21,22}", b"a{21x", b"a{99999999999999999999}", b"a{200}")
        self.has_fault(3, 4, b"a{2,21}", b"a{0,100}", b"a{2,21x", b"a{1,21\xff")

    def test_second_number_below_the_first(self):
        self.has_fault(3, 4, b"a{3,2}", b"a{2,1x", b"a{1,0}", b"a{2,0x", b"a{2,01}", b"a{9,8\xff")
        self.has_fault(3, 5, b"a{20,19}")
        for number in range(1, 20):
            self.has_fault(3, 5, b"a{20,%d}" % number)
            self.has_fault(3, 3 + len(str(number)), b"a{%d,%d}" % (number, number - 1), b"a{%d,0}" % number)

    def test_name_that_is_there_already(self):
        self.has_fault(4, 6, b"<a b><a c>", b"<a b><a>", b"<a b><a\xff", b"<a b><aB")
        self.has_fault(4, 4, b"<a <a b>>")
        self.has_fault(4, 7, b"<a b>|<a c>")
        self.has_fault(4, 15, b"<ab_ x>(<b >)(<ab_ y>)")

    def test_name_longer_than_thirty_two(self):
        self.has_fault(4, 1, b"<" + b"a" * 33 + b" b>", b"<" + b"a" * 33 + b">", b"<" + b"a" * 120 + b"!")

    def test_seventeenth_name(self):
        self.has_fault(4, 65, one_letter_names(17), one_letter_names(16) + b"<q>", one_letter_names(26))
        self.has_fault(2, 65, one_letter_names(16) + b"<Q >")


class OpenBrackets(JudgeCase):

    def test_forty_first_open(self):
        self.has_fault(5, 40, b"(" * 41, b"(" * 40 + b"<", b"(" * 40 + b"<A", b"(" * 128)
        self.has_fault(5, 42, b"(" * 40 + b")((", b"(" * 39 + b"<a " + b"(")
        self.has_fault(5, 64, b"()" * 12 + b"(" * 41)


class EndsInWrongOrder(JudgeCase):

    def test_place_is_that_of_the_first(self):
        self.has_fault(6, 1, b"[b-a]", b"[b-a", b"[z-\\n]", b"[\\n-\\t]")
        self.has_fault(6, 1, b"[\xc3\xa9-a]", b"[\xf0\x90\x80\x80-\xef\xbf\xbf]")
        self.has_fault(6, 2, b"[^b-a]", b"[bb-a]", b"[^\\]-\\[")
        self.has_fault(6, 4, b"[a-zb-a]", b"x[\\db-a]")

    def test_order_is_that_of_scalar_values(self):
        for (lower, higher) in zip(SCALAR_EDGES, SCALAR_EDGES[1:]):
            self.has_names(0, f"[{chr(lower)}-{chr(higher)}]".encode())
            self.has_fault(6, 1, f"[{chr(higher)}-{chr(lower)}]".encode())

    def test_what_escapes_stand_for(self):
        values = {sign: sign for sign in SIGNS + b"-"}
        values.update({ord("n"): 0x0A, ord("t"): 0x09})
        for (sign, value) in values.items():
            self.has_names(0, b"[\\%c-\\%c]" % (sign, sign))
            for other in (value - 1, value, value + 1):
                if other in SET_SIGNS:
                    continue
                below = b"[%c-\\%c]" % (other, sign)
                above = b"[\\%c-%c]" % (sign, other)
                if other <= value:
                    self.has_names(0, below)
                else:
                    self.has_fault(6, 1, below)
                if other >= value:
                    self.has_names(0, above)
                else:
                    self.has_fault(6, 1, above)

    def test_first_fault_counts(self):
        self.has_fault(6, 1, b"[b-ac-a]", b"[b-a-]", b"[b-a](")
        self.has_fault(2, 4, b"[b-\\q]")
        self.has_fault(1, 4, b"[b-\xc3")


class TooManyAtoms(JudgeCase):

    def test_each_atom_is_one(self):
        values = (b"a", b"\xf0\x9f\x98\x80", b"\\n", b"\\W", b"\\(", b"[a-z\\d_]", b"[^a]", b".")
        for atom in values + (b"^", b"$", b"\\b"):
            self.has_names(0, b"(" + atom + b"{20}){10}", b"(a{20}){9}(b{19}){1}" + atom)
            self.has_fault(7, 0, b"(" + atom + b"{20}){11}", b"(a{20}){10}" + atom, atom + b"|(a{20}){10}")

    def test_brackets_are_none(self):
        self.has_names(0, b"(a{20}){10}()", b"(a{20}){10}((|)*){20}", b"()(((a{20}){10}))")
        self.has_names(1, b"<n (a{20}){10}>", b"(a{20}){10}<n >")
        self.has_fault(7, 0, b"<n (a{20}){10}>a", b"<n (a{20}){10}a>")

    def test_how_often_repetitions_count(self):
        full = b"(a{20}){10}"
        self.has_names(0, full + b"b{0}", full + b"b{0,0}", full + b"((a{20}){20}){0}", b"(a{0,20}){5,10}")
        self.has_names(0, b"(a{20}){10,}", b"(a{20,}){10}", b"(((a{20}){10})*)+")
        self.has_names(0, b"(" + full + b")?", b"(" + full + b"){0,}", b"(" + full + b"){1}")
        for once in (b"b*", b"b+", b"b?", b"b{0,}", b"b{1,}", b"b{1}", b"b{0,1}"):
            self.has_names(0, b"(a{20}){9}c{19}" + once)
            self.has_fault(7, 0, full + once)
        self.has_fault(7, 0, b"(a{20}){11,}", b"(a{20,}){11}", b"(a{0,20}){0,11}", b"(a{20}){9}(b{3}){7}")
        self.has_fault(7, 0, b"((((((a{20}){20}){20}){20}){20}){20}){20}")

    def test_rows_are_added_up(self):
        self.has_names(0, b"(a{20}){5}|(b{20}){5}", b"((a{20}|b{20})){5}")
        self.has_fault(7, 0, b"(a{20}){5}|(b{20}){5}|c", b"(a{20}|b{20}){6}")

    def test_looked_at_last(self):
        self.has_fault(2, 11, b"(a{20}){11})")
        self.has_fault(6, 12, b"(a{20}){11}[b-a]")
        self.has_fault(2, 11, b"(a{20}){11}\x80")


class EachCallByItself(JudgeCase):

    def test_nothing_is_kept(self):
        for round_of_calls in range(3):
            self.has_names(1, b"<a b>")
            self.has_fault(4, 6, b"<a b><a c>")
            self.has_fault(1, 41, b"(" * 40 + b"a")
            self.has_fault(7, 0, b"(a{20}){11}")
            self.has_names(0, b"(a{20}){10}")

    def test_what_is_handed_in_is_not_changed(self):
        for pattern in (b"", b"<ab x>|(<c9_ y>)", b"[\\da-z]{2,3}\xc3\xa9*", b"[b-a]", b"a" * 129):
            given = Unchangeable(pattern)
            judge(given)
            self.assertEqual(list(given), list(pattern))


if __name__ == "__main__":
    unittest.main()
