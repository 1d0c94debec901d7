"""switches: of each switch its place, close, open, whether it's turned, its name, in the text's order."""

import unittest

from flipboards.boards import judge, switches
from flipboards.parts import Board
from flipboards.telling import tell_switches
from texts import FULL, SMALLEST, TableCase, bytes_of, largest, named, text_of


def with_switches(*lines):
    """A right text with these switches, of which the first has to be called a."""
    return bytes_of(text_of(SMALLEST[:1] + list(lines) + SMALLEST[2:]))


class Switches(TableCase):
    def check_one(self, line, told):
        self.assertEqual(switches(with_switches(line)), [0, 1] + told, line)

    def test_none(self):
        # The drains hold a ball at least, so a text without switches is faulty: no text is answered with 0, 0.
        for lines in (SMALLEST[:1], SMALLEST[:1] + ["lamp a at 0"], SMALLEST[:1] + SMALLEST[2:3]):
            text = bytes_of(text_of(lines))
            self.assertEqual(judge(text), [-6, 8, len(text)])
            self.assertEqual(switches(text), [-6])
        self.assertEqual(tell_switches(Board((97,), 1)), [0])

    def test_one(self):
        self.check_one("switch a at 7 close 2 open 3", [7, 2, 3, 0, 1, 97])
        self.check_one("switch a at 7 close 2 open 3 turned", [7, 2, 3, 1, 1, 97])

    def test_several_in_the_texts_order(self):
        text = with_switches("switch a at 3 close 1 open 2 turned", "switch zz at 4 close 5 open 6",
                             "switch b at 10 close 11 open 12", "switch a_0 at 62 close 30 open 29 turned")
        self.assertEqual(switches(text), [0, 4, 3, 1, 2, 1, 1, 97, 4, 5, 6, 0, 2, 122, 122,
                                          10, 11, 12, 0, 1, 98, 62, 30, 29, 1, 3, 97, 95, 48])

    def test_among_every_sort(self):
        told = [0, 11]
        for k in range(1, 9):
            told += [k, 4, 5, 0, 2, ord("t"), ord("0") + k]
        told += [20, 4, 5, 1, 4] + list(b"hole")
        told += [30, 4, 5, 0, 4] + list(b"left")
        told += [40, 4, 5, 1, 5] + list(b"right")
        self.assertEqual(switches(bytes_of(text_of(FULL))), told)

    def test_each_number_at_its_bounds(self):
        for place in (0, 63):
            for to_close in (1, 31):
                for to_open in (1, 31):
                    line = f"switch a at {place} close {to_close} open {to_open}"
                    self.check_one(line, [place, to_close, to_open, 0, 1, 97])
                    self.check_one(line + " turned", [place, to_close, to_open, 1, 1, 97])

    def test_first_and_last_place_in_one_text(self):
        text = with_switches("switch a at 0 close 1 open 31", "switch b at 63 close 31 open 1")
        self.assertEqual(switches(text), [0, 2, 0, 1, 31, 0, 1, 97, 63, 31, 1, 0, 1, 98])

    def test_names(self):
        for name in ("b", "z", "b0", "z_", "turned", "switch", "loop", "abcdefghijk", "abcdefghij_9"):
            text = with_switches(SMALLEST[1], f"switch {name} at 1 close 2 open 3", "switch c at 2 close 4 open 5")
            self.assertEqual(switches(text), [0, 3, 0, 1, 1, 0, 1, 97, 1, 2, 3, 0] + named(name) + [2, 4, 5, 0, 1, 99])

    def test_name_of_twelve_bytes(self):
        text = with_switches(SMALLEST[1], "switch abcdefghij_9 at 1 close 1 open 1")
        self.assertEqual(switches(text)[8:], [1, 1, 1, 0, 12] + list(b"abcdefghij_9"))

    def test_64_in_one_text(self):
        told = [0, 64]
        for place in range(64):
            told += [place, 31, 31, 1, 12] + list(b"switch_no_%02d" % place)
        self.assertEqual(switches(bytes_of(largest())), told)

    def test_64_every_other_turned(self):
        lines = ["switch a at 0 close 1 open 31"]
        told = [0, 64, 0, 1, 31, 0, 1, 97]
        for place in range(1, 64):
            to_close = place // 3 + 1
            ending = " turned" if place % 2 else ""
            lines.append(f"switch s{place} at {place} close {to_close} open {32 - to_close}{ending}")
            told += [place, to_close, 32 - to_close, place % 2] + named(f"s{place}")
        self.assertEqual(switches(with_switches(*lines)), told)

    def test_turned_is_a_whole_number(self):
        for ending, turned in (("", 0), (" turned", 1)):
            told = switches(with_switches("switch a at 5 close 6 open 7" + ending))
            self.assertEqual(told, [0, 1, 5, 6, 7, turned, 1, 97])
            self.assertEqual([type(number) for number in told], [int] * 8)


if __name__ == "__main__":
    unittest.main()
