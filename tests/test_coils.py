"""coils: of each coil its place, most, rest, hold (0: none told), its name, in the text's order."""

import unittest

from flipboards.boards import coils, judge
from flipboards.parts import Board
from flipboards.telling import tell_coils
from texts import FULL, SMALLEST, TableCase, bytes_of, largest, named, text_of


def with_coils(*lines):
    """A right text with these coils, of which one has to be called a."""
    return bytes_of(text_of(SMALLEST[:2] + list(lines) + SMALLEST[3:]))


class Coils(TableCase):
    def check_one(self, line, told):
        self.assertEqual(coils(with_coils(line)), [0, 1] + told, line)

    def test_none(self):
        # A drain has a coil, so a text without coils is faulty: no text is answered with 0, 0.
        text = bytes_of(text_of(SMALLEST[:2]))
        self.assertEqual(judge(text), [-6, 8, len(text)])
        self.assertEqual(coils(text), [-6])
        self.assertEqual(coils(with_coils()), [-6])
        self.assertEqual(tell_coils(Board((97,), 1)), [0])

    def test_one(self):
        self.check_one("coil a at 7 most 20 rest 300", [7, 20, 300, 0, 1, 97])
        self.check_one("coil a at 7 most 20 rest 300 hold 4", [7, 20, 300, 4, 1, 97])

    def test_several_in_the_texts_order(self):
        text = with_coils("coil zz at 3 most 100 rest 200 hold 2", "coil b at 4 most 5 rest 6",
                          "coil a at 10 most 1000 rest 2000", "coil a_0 at 30 most 9 rest 8 hold 7")
        self.assertEqual(coils(text), [0, 4, 3, 100, 200, 2, 2, 122, 122, 4, 5, 6, 0, 1, 98,
                                       10, 1000, 2000, 0, 1, 97, 30, 9, 8, 7, 3, 97, 95, 48])

    def test_among_every_sort(self):
        told = [0, 4]
        told += [5, 300, 50, 0, 6] + list(b"trough")
        told += [10, 300, 50, 3, 4] + list(b"left")
        told += [15, 30, 50, 0, 5] + list(b"right")
        told += [20, 300, 50, 0, 4] + list(b"loop")
        self.assertEqual(coils(bytes_of(text_of(FULL))), told)

    def test_each_number_at_its_bounds(self):
        for place in (0, 31):
            for most in (1, 1023):
                for rest in (1, 4095):
                    line = f"coil a at {place} most {most} rest {rest}"
                    self.check_one(line, [place, most, rest, 0, 1, 97])
                    for hold in (1, 15):
                        self.check_one(f"{line} hold {hold}", [place, most, rest, hold, 1, 97])

    def test_first_and_last_place_in_one_text(self):
        text = with_coils("coil a at 0 most 1 rest 4095 hold 15", "coil b at 31 most 1023 rest 1 hold 1")
        self.assertEqual(coils(text), [0, 2, 0, 1, 4095, 15, 1, 97, 31, 1023, 1, 1, 1, 98])

    def test_without_a_hold_beside_one_with(self):
        bare = "coil a at 1 most 2 rest 3"
        held = "coil b at 4 most 5 rest 6 hold 7"
        self.assertEqual(coils(with_coils(bare, held)), [0, 2, 1, 2, 3, 0, 1, 97, 4, 5, 6, 7, 1, 98])
        self.assertEqual(coils(with_coils(held, "coil a at 5 most 2 rest 3")),
                         [0, 2, 4, 5, 6, 7, 1, 98, 5, 2, 3, 0, 1, 97])

    def test_names(self):
        for name in ("b", "z", "b0", "z_", "hold", "coil", "drain", "loop", "abcdefghijk", "abcdefghij_9"):
            text = with_coils(SMALLEST[2], f"coil {name} at 1 most 2 rest 3", "coil c at 2 most 4 rest 5")
            self.assertEqual(coils(text), [0, 3, 0, 1, 1, 0, 1, 97, 1, 2, 3, 0] + named(name) + [2, 4, 5, 0, 1, 99])

    def test_name_of_twelve_bytes(self):
        text = with_coils(SMALLEST[2], "coil abcdefghij_9 at 1 most 1 rest 1")
        self.assertEqual(coils(text)[8:], [1, 1, 1, 0, 12] + list(b"abcdefghij_9"))

    def test_32_in_one_text(self):
        told = [0, 32]
        for place in range(32):
            told += [place, 1023, 4095, 15, 12] + list(b"coil_numb_%02d" % place)
        self.assertEqual(coils(bytes_of(largest())), told)

    def test_32_every_other_with_a_hold(self):
        lines = ["coil a at 0 most 1 rest 1"]
        told = [0, 32, 0, 1, 1, 0, 1, 97]
        for place in range(1, 32):
            hold = place // 2 if place % 2 and place > 1 else 0
            ending = f" hold {hold}" if hold else ""
            lines.append(f"coil c{place} at {place} most {33 * place} rest {132 * place}{ending}")
            told += [place, 33 * place, 132 * place, hold] + named(f"c{place}")
        self.assertEqual(coils(with_coils(*lines)), told)

    def test_whole_numbers_alone(self):
        # 0 and 1 wherever they may stand, where True and False would be equal.
        told = coils(with_coils("coil a at 0 most 1 rest 1", "coil b at 1 most 1 rest 1 hold 1"))
        self.assertEqual(told, [0, 2, 0, 1, 1, 0, 1, 97, 1, 1, 1, 1, 1, 98])
        self.assertEqual([type(number) for number in told], [int] * 14)


if __name__ == "__main__":
    unittest.main()
