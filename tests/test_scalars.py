"""scalar_at: one scalar value of bytes that are UTF-8."""

import unittest

from toldpatterns.scalars import scalar_at


class ScalarAt(unittest.TestCase):

    def test_values_and_places_behind(self):
        # 61 has no factor in common with 64, so every last byte comes up behind every first one.
        for value in list(range(0, 0xD800, 61)) + list(range(0xE000, 0x110000, 61)) + [0xD7FF, 0xFFFF, 0x10FFFF]:
            given = list(chr(value).encode())
            self.assertEqual(scalar_at(given, 0), (value, len(given)))
            self.assertEqual(scalar_at([0x61] + given + given, 1), (value, len(given) + 1))


if __name__ == "__main__":
    unittest.main()
