"""lamps: of each lamp its place and its name, in the text's order."""

import unittest

from flipboards.boards import lamps
from texts import FULL, SMALLEST, TableCase, bytes_of, largest, named, text_of


def with_lamps(*lines):
    """A right text with these lamps."""
    return bytes_of(text_of(SMALLEST[:2] + list(lines) + SMALLEST[2:]))


class Lamps(TableCase):
    def test_none(self):
        self.assertEqual(lamps(with_lamps()), [0, 0])

    def test_one(self):
        self.assertEqual(lamps(with_lamps("lamp b at 7")), [0, 1, 7, 1, 98])

    def test_several_in_the_texts_order(self):
        self.assertEqual(lamps(with_lamps("lamp zz at 3", "lamp b at 4", "lamp a_0 at 10")),
                         [0, 3, 3, 2, 122, 122, 4, 1, 98, 10, 3, 97, 95, 48])

    def test_among_every_sort(self):
        self.assertEqual(lamps(bytes_of(text_of(FULL))), [0, 2, 10, 4] + list(b"left") + [20, 5] + list(b"drain"))

    def test_first_and_last_place(self):
        for place in (0, 63):
            self.assertEqual(lamps(with_lamps(f"lamp b at {place}")), [0, 1, place, 1, 98])
        self.assertEqual(lamps(with_lamps("lamp b at 0", "lamp c at 63")), [0, 2, 0, 1, 98, 63, 1, 99])

    def test_names(self):
        # The last is a switch's, a coil's and a device's too.
        for name in ("b", "z", "b0", "z_", "lamp", "drain", "abcdefghijk", "abcdefghij_9", "a"):
            self.assertEqual(lamps(with_lamps(f"lamp {name} at 1", "lamp c at 2")),
                             [0, 2, 1] + named(name) + [2, 1, 99])

    def test_name_of_twelve_bytes(self):
        self.assertEqual(lamps(with_lamps("lamp abcdefghij_9 at 1")), [0, 1, 1, 12] + list(b"abcdefghij_9"))

    def test_64_in_one_text(self):
        told = [0, 64]
        for place in range(64):
            told += [place, 12] + list(b"lamp_numb_%02d" % place)
        self.assertEqual(lamps(bytes_of(largest())), told)

    def test_whole_numbers_alone(self):
        # 0 and 1 as places and as counts, where True and False would be equal.
        told = lamps(with_lamps("lamp b at 0", "lamp c at 1"))
        self.assertEqual(told, [0, 2, 0, 1, 98, 1, 1, 99])
        self.assertEqual([type(number) for number in told], [int] * 8)


if __name__ == "__main__":
    unittest.main()
