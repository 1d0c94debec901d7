"""Right texts: judge answers 0, table the balls and the name (A1), and no other text tells the same table (A2)."""

import unittest

from again import told_again
from flipboards.boards import table
from texts import FULL, SMALLEST, TableCase, bytes_of, largest, swapped, text_of

# Of each number: the line of FULL it stands in, that line with a gap, its two bounds.
BOUNDS = [
    ("table night_9 balls 8", "table night_9 balls {}", 1, 8),
    ("switch t1 at 1 close 4 open 5", "switch t1 at 1 close {} open 5", 1, 31),
    ("switch t1 at 1 close 4 open 5", "switch t1 at 1 close 4 open {}", 1, 31),
    ("coil trough at 5 most 300 rest 50", "coil trough at 5 most {} rest 50", 1, 1023),
    ("coil trough at 5 most 300 rest 50", "coil trough at 5 most 300 rest {}", 1, 4095),
    ("coil left at 10 most 300 rest 50 hold 3", "coil left at 10 most 300 rest 50 hold {}", 1, 15),
    ("kick left left for 200 till right", "kick left left for {} till right", 1, 255),
]

# Places rise, so the least can stand in the first line of its sort alone, the greatest in the last.
PLACE_BOUNDS = [
    ("switch t1 at 1 close 4 open 5", "switch t1 at {} close 4 open 5", 0, 0),
    ("switch right at 40 close 4 open 5 turned", "switch right at {} close 4 open 5 turned", 63, 63),
    ("lamp left at 10", "lamp left at {}", 0, 0),
    ("lamp drain at 20", "lamp drain at {}", 63, 63),
    ("coil trough at 5 most 300 rest 50", "coil trough at {} most 300 rest 50", 0, 0),
    ("coil loop at 20 most 300 rest 50", "coil loop at {} most 300 rest 50", 31, 31),
]


class RightTexts(TableCase):
    def test_smallest(self):
        self.check_right(text_of(SMALLEST))
        self.assertEqual(table(bytes_of(text_of(SMALLEST))), [0, 1, 97])

    def test_every_sort_and_ending(self):
        self.check_right(text_of(FULL))
        self.assertEqual(table(bytes_of(text_of(FULL))), [0, 8] + list(b"night_9"))

    def test_largest(self):
        self.check_right(largest())

    def test_each_number_at_its_bounds(self):
        for line, gap, least, most in BOUNDS + PLACE_BOUNDS:
            for number in (least, most):
                self.check_right(swapped(line, gap.format(number)))

    def test_one_beyond_each_bound(self):
        for line, gap, least, most in BOUNDS:
            for number in (least - 1, most + 1):
                self.check_fault(4, swapped(line, gap.format(f"^{number}")))
        for line, gap, least, most in PLACE_BOUNDS:
            number = most + 1 if most else -1
            self.check_fault(4, swapped(line, gap.format(f"^{number}")))

    def test_names(self):
        for name in ("a", "z", "a0", "z9", "a_", "abcdefghij_9", "drain", "loop", "table"):
            self.check_right(swapped("table night_9 balls 8", f"table {name} balls 8"))

    def test_names_like_the_words_of_lines(self):
        self.check_right(swapped("switch t8 at 8 close 4 open 5", "switch t8 at 8 close 4 open 5",
                                 "switch turned at 9 close 4 open 5 turned", "switch at at 10 close 4 open 5",
                                 "switch loop at 11 close 4 open 5", "switch till at 12 close 4 open 5"))
        self.check_right(swapped("coil trough at 5 most 300 rest 50", "coil hold at 4 most 1 rest 1 hold 1",
                                 "coil trough at 5 most 300 rest 50"))
        self.check_right(swapped("lamp left at 10", "lamp at at 10"))
        self.check_right(swapped("device hole by loop holds hole", "device drain by loop holds hole"))

    def test_sorts_may_share_names(self):
        lines = ["table x balls 1", "switch x at 0 close 1 open 1", "lamp x at 0", "coil x at 0 most 1 rest 1",
                 "device x by x holds x drain"]
        self.check_right(text_of(lines))

    def test_sorts_may_be_missing(self):
        self.check_right(text_of([line for line in FULL if not line.startswith("lamp ")]))
        self.check_right(text_of([line for line in FULL if not line.startswith("kick ")]))

    def test_one_to_eight_switches_of_a_device(self):
        for many in range(1, 9):
            held = " ".join([f"t{k}" for k in range(1, many + 1)])
            lines = [f"table x balls {many}"] + FULL[1:18] + [f"device d by trough holds {held} drain"]
            self.check_right(text_of(lines))

    def test_held_switches_in_any_order(self):
        lines = ["table x balls 3"] + FULL[1:18] + ["device d by trough holds t7 t1 t3 drain"]
        self.check_right(text_of(lines))

    def test_drains_together(self):
        lines = ["table x balls 3"] + FULL[1:18]
        lines += ["device d by trough holds t1 drain", "device e by loop holds t2 t3 drain"]
        self.check_right(text_of(lines))

    def test_second_switch_of_a_kick_may_stand_anywhere(self):
        # In a device, below the first switch, or as another kick's first or second one.
        for till in ("t1", "hole", "left"):
            self.check_right(swapped("kick right right for 30", f"kick right right for 30 till {till}"))
        self.check_right(text_of(FULL[:-2] + ["kick left left for 200 till t1", "kick right right for 30 till t1"]))

    def test_kick_as_long_as_its_coil_allows(self):
        for ticks in (1, 29, 30):
            self.check_right(swapped("kick right right for 30", f"kick right right for {ticks}"))


class OneText(TableCase):
    def test_what_is_read_is_told_by_that_text_alone(self):
        for text in (text_of(SMALLEST), text_of(FULL), largest()):
            self.assertEqual(told_again(bytes_of(text)), text)

    def test_each_changed_byte_is_another_table_or_a_fault(self):
        text = text_of(FULL)
        for place in range(len(text)):
            for sign in "\n 019az_^":
                changed = text[:place] + sign + text[place + 1:]
                if table(bytes_of(changed))[0] == 0:
                    self.assertEqual(told_again(bytes_of(changed)), changed)

    def test_each_byte_is_needed(self):
        text = text_of(FULL)
        for place in range(len(text)):
            changed = text[:place] + text[place + 1:]
            if table(bytes_of(changed))[0] == 0:
                self.assertEqual(told_again(bytes_of(changed)), changed)

    def test_other_ways_to_tell_the_same_table(self):
        self.check_fault(4, swapped("lamp left at 10", "lamp left at ^010"))
        self.check_fault(2, swapped("lamp left at 10", "lamp left at ^ 10"))
        self.check_fault(3, swapped("lamp left at 10", "lamp left at 10", "^"))
        self.check_fault(5, swapped("lamp left at 10", "lamp left at 21").replace("drain at 20", "drain at ^20"))


if __name__ == "__main__":
    unittest.main()
