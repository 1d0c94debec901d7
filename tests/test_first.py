"""Which of several faults is the first one (A1)."""

import unittest

from texts import FULL, TableCase, swapped, text_of

LAMP = "lamp left at 10"
DEVICE = "device hole by loop holds hole"
KICK = "kick left left for 200 till right"
BARE_KICK = "kick right right for 30"

# A line for each kind that a line can have, to stand in the place of the line DEVICE.
WRONG_LINES = [
    "device hole^ ",
    "^devices",
    "device ^9",
    "device ^trough",
    "device hole by ^unknown",
    "device hole by ^trough",
]


def unmarked(text):
    return text.replace("^", "")


class TwoLines(TableCase):
    def test_the_line_in_front_whatever_the_kinds(self):
        for first in WRONG_LINES:
            for second in WRONG_LINES:
                kind = WRONG_LINES.index(first) + 2
                self.check_fault(kind, swapped(DEVICE, first, unmarked(second)))

    def test_a_line_that_is_not_ended_comes_behind_the_lines_before(self):
        for kind, line in enumerate(WRONG_LINES, 2):
            self.check_fault(kind, swapped(DEVICE, line) + "kick")
            self.check_fault(kind, swapped(DEVICE, line)[:-1])

    def test_drains_that_hold_too_few_come_last(self):
        # Without its device nothing drains, but for the lines behind that is told later.
        lines = FULL[:18]
        self.check_fault(8, text_of(lines) + "^")
        self.check_fault(1, text_of(lines) + "k^")
        self.check_fault(2, text_of(lines) + "^\t\n")
        self.check_fault(3, text_of(lines) + "^\n")
        self.check_fault(4, text_of(lines) + "kick ^9\n")
        self.check_fault(5, text_of(lines) + "kick right right for 30\nkick ^left\n")
        self.check_fault(6, text_of(lines) + "kick ^unknown\n")
        self.check_fault(7, text_of(lines) + "kick left right for ^31\n")

    def test_what_stands_behind_the_faulty_line_does_not_count(self):
        for kind, line in enumerate(WRONG_LINES, 2):
            text = text_of(FULL[:FULL.index(DEVICE)] + [line])
            for rest in ("", "\n", "x", "kick left left for 200\n", "\x00\n"):
                self.check_fault(kind, text + rest)


class OneLine(TableCase):
    def test_not_ended_with_wrong_bytes_and_words(self):
        self.check_fault(1, "what is  this\t^")
        self.check_fault(1, text_of(FULL) + "what is  this\t^")

    def test_bytes_before_words(self):
        self.check_fault(2, swapped(LAMP, "lam LEFT is 064^ "))
        self.check_fault(2, swapped(LAMP, "table^\x7f"))
        self.check_fault(2, swapped("table night_9 balls 8", "tables 9 balls 9 ^ 1"))

    def test_of_two_bytes_the_left_one(self):
        self.check_fault(2, swapped(LAMP, "^ lamp  left\tat 10 "))
        self.check_fault(2, swapped(LAMP, "lamp ^ left\tat 10 "))
        self.check_fault(2, swapped(LAMP, "lamp left^\tat  10 "))

    def test_of_two_words_the_left_one_whatever_the_kinds(self):
        self.check_fault(4, swapped("table night_9 balls 8", "table ^9 ball 9"))
        self.check_fault(3, swapped("table night_9 balls 8", "table night_9 ^ball 9"))
        self.check_fault(3, swapped("table night_9 balls 8", "^tables 9 balls 9"))
        self.check_fault(4, swapped("table night_9 balls 8", "table night_9 balls ^9 more"))
        self.check_fault(4, swapped("table night_9 balls 8", "table ^9"))
        self.check_fault(5, swapped("lamp drain at 20", "lamp ^left on 64"))
        self.check_fault(5, swapped("lamp drain at 20", "lamp z at ^10 more"))
        self.check_fault(6, swapped(DEVICE, "device hole by ^unknown holds t1 9"))
        self.check_fault(7, swapped(DEVICE, "device hole by ^trough holds unknown"))
        self.check_fault(7, swapped(DEVICE, "device hole by loop holds ^t1 unknown"))
        self.check_fault(7, swapped(DEVICE, "device hole by loop holds ^t1 drain more"))
        self.check_fault(6, swapped(KICK, "kick ^unknown trough for 256"))
        self.check_fault(7, swapped(KICK, "kick left ^trough for 256"))
        self.check_fault(7, swapped(BARE_KICK, "kick right right for ^31 till right"))
        self.check_fault(7, swapped(KICK, "kick ^t1"))

    def test_a_wrong_word_comes_before_a_missing_one(self):
        self.check_fault(4, swapped(LAMP, "lamp ^9"))
        self.check_fault(3, swapped(LAMP, "lamp left ^10"))


class OneWord(TableCase):
    def test_a_word_that_cannot_stand_there_before_its_form(self):
        self.check_fault(3, swapped(LAMP, "lamp left at 10 ^LEFT"))
        eight = "device trough by trough holds t1 t2 t3 t4 t5 t6 t7 t8"
        self.check_fault(3, swapped(eight + " drain", eight + " ^t1"))

    def test_bounds_before_the_place_before(self):
        # Out of its bounds; and a number that isn't one can't be held against the place before.
        self.check_fault(4, swapped("lamp drain at 20", "lamp drain at ^01"))
        self.check_fault(4, swapped("lamp drain at 20", "lamp drain at ^64"))

    def test_bounds_before_the_coils_most(self):
        self.check_fault(4, swapped(BARE_KICK, "kick right right for ^256"))
        self.check_fault(7, swapped(BARE_KICK, "kick right right for ^255"))

    def test_place_before_the_device(self):
        # t1 stands in a device, and below the first switch of the kick before.
        self.check_fault(5, swapped(BARE_KICK, "kick ^t1 right for 30"))
        self.check_fault(5, swapped(BARE_KICK, "kick ^hole right for 30"))


if __name__ == "__main__":
    unittest.main()
