"""kicks: of each kick the first switch's place, the coil's, T, the second switch's place (64: none)."""

import unittest

from flipboards.boards import judge, kicks
from texts import FULL, SMALLEST, TableCase, bytes_of, largest, text_of

# A place is never the part's number, and no switch has a coil's: whichever is told in another's stead is seen.
SWITCH_PLACES = [0] + [3 * k + 1 for k in range(1, 20)] + [63]
COIL_PLACES = [3 * k + 2 for k in range(10)]


def with_kicks(*lines):
    """Switches s0 to s20, at places 0 and 63 too, coils c0 to c9, a drain by c0 that holds s1 and s2, these kicks."""
    text = ["table x balls 1"]
    text += [f"switch s{k} at {place} close 1 open 1" for k, place in enumerate(SWITCH_PLACES)]
    text += [f"coil c{k} at {place} most 1023 rest 1" for k, place in enumerate(COIL_PLACES)]
    return bytes_of(text_of(text + ["device a by c0 holds s1 s2 drain"] + list(lines)))


class Kicks(TableCase):
    def test_none(self):
        self.assertEqual(kicks(with_kicks()), [0, 0])
        self.assertEqual(kicks(bytes_of(text_of(SMALLEST))), [0, 0])

    def test_one(self):
        self.assertEqual(kicks(with_kicks("kick s5 c2 for 9")), [0, 1, 16, 8, 9, 64])
        self.assertEqual(kicks(with_kicks("kick s5 c2 for 9 till s7")), [0, 1, 16, 8, 9, 22])

    def test_several_in_the_texts_order(self):
        # First switches rise; coils, T and second switches don't have to.
        text = with_kicks("kick s3 c9 for 200 till s19", "kick s4 c3 for 7", "kick s9 c5 for 100 till s6",
                          "kick s10 c1 for 1 till s12")
        self.assertEqual(kicks(text), [0, 4, 10, 29, 200, 58, 13, 11, 7, 64, 28, 17, 100, 19, 31, 5, 1, 37])

    def test_among_every_sort(self):
        self.assertEqual(kicks(bytes_of(text_of(FULL))), [0, 2, 30, 10, 200, 40, 40, 15, 30, 64])

    def test_eight(self):
        told = [0, 8]
        for k in range(8):
            told += [56 + k, 8 + k, 255, k]
        self.assertEqual(kicks(bytes_of(largest())), told)

    def test_eight_every_other_with_a_second_switch(self):
        lines = []
        told = [0, 8]
        for k in range(8):
            ending = f" till s{20 - k}" if k % 2 else ""
            lines.append(f"kick s{k + 4} c{8 - k} for {30 * k + 1}{ending}")
            told += [SWITCH_PLACES[k + 4], COIL_PLACES[8 - k], 30 * k + 1, SWITCH_PLACES[20 - k] if k % 2 else 64]
        self.assertEqual(kicks(with_kicks(*lines)), told)

    def test_nine(self):
        text = with_kicks(*[f"kick s{k + 4} c{k + 1} for 1" for k in range(9)])
        self.assertEqual(judge(text)[:2], [-6, 3])
        self.assertEqual(kicks(text), [-6])

    def test_ticks_at_their_bounds(self):
        for ticks in (1, 2, 254, 255):
            self.assertEqual(kicks(with_kicks(f"kick s3 c2 for {ticks}")), [0, 1, 10, 8, ticks, 64])
            self.assertEqual(kicks(with_kicks(f"kick s3 c2 for {ticks} till s4")), [0, 1, 10, 8, ticks, 13])
        for ticks in (0, 256):
            self.assertEqual(kicks(with_kicks(f"kick s3 c2 for {ticks}")), [-6])

    def test_ticks_as_many_as_the_coil_allows(self):
        lines = SMALLEST[:2] + ["switch b at 9 close 1 open 1"] + SMALLEST[2:3]
        for most in (1, 100, 255):
            text = lines + [f"coil b at 7 most {most} rest 1"] + SMALLEST[3:]
            self.assertEqual(kicks(bytes_of(text_of(text + [f"kick b b for {most}"]))), [0, 1, 9, 7, most, 64])
            self.assertEqual(kicks(bytes_of(text_of(text + [f"kick b b for {most + 1}"]))), [-6])

    def test_without_a_second_switch_beside_one_with(self):
        self.assertEqual(kicks(with_kicks("kick s3 c1 for 5", "kick s4 c2 for 6 till s5")),
                         [0, 2, 10, 5, 5, 64, 13, 8, 6, 16])
        self.assertEqual(kicks(with_kicks("kick s3 c1 for 5 till s5", "kick s4 c2 for 6")),
                         [0, 2, 10, 5, 5, 16, 13, 8, 6, 64])

    def test_second_switch_at_the_first_and_last_place(self):
        text = with_kicks("kick s3 c1 for 5 till s20", "kick s4 c2 for 6 till s0", "kick s5 c3 for 7")
        self.assertEqual(kicks(text), [0, 3, 10, 5, 5, 63, 13, 8, 6, 0, 16, 11, 7, 64])

    def test_first_switch_at_the_first_and_last_place(self):
        text = with_kicks("kick s0 c1 for 5", "kick s20 c2 for 6 till s19")
        self.assertEqual(kicks(text), [0, 2, 0, 5, 5, 64, 63, 8, 6, 58])

    def test_coil_at_the_first_and_last_place(self):
        lines = ["table x balls 1", "switch a at 20 close 1 open 1", "switch b at 30 close 1 open 1",
                 "switch c at 40 close 1 open 1", "coil b at 0 most 9 rest 1", "coil a at 10 most 9 rest 1",
                 "coil c at 31 most 9 rest 1", "device a by a holds a drain"]
        self.assertEqual(kicks(bytes_of(text_of(lines + ["kick b c for 8 till a", "kick c b for 9"]))),
                         [0, 2, 30, 31, 8, 20, 40, 0, 9, 64])

    def test_second_switch_that_stands_in_a_device(self):
        self.assertEqual(kicks(with_kicks("kick s3 c1 for 5 till s1", "kick s4 c2 for 6 till s2")),
                         [0, 2, 10, 5, 5, 4, 13, 8, 6, 7])

    def test_second_switch_that_another_kick_has(self):
        # The first one of a kick behind and before, and one that three kicks share.
        self.assertEqual(kicks(with_kicks("kick s3 c1 for 5 till s4", "kick s4 c2 for 6 till s3")),
                         [0, 2, 10, 5, 5, 13, 13, 8, 6, 10])
        text = with_kicks("kick s3 c1 for 5 till s9", "kick s4 c2 for 6 till s9", "kick s5 c3 for 7 till s9")
        self.assertEqual(kicks(text), [0, 3, 10, 5, 5, 28, 13, 8, 6, 28, 16, 11, 7, 28])

    def test_switch_lamp_coil_and_device_that_share_a_name(self):
        lines = ["table b balls 1", "switch a at 40 close 1 open 1", "switch b at 50 close 1 open 1", "lamp b at 60",
                 "coil b at 20 most 9 rest 1", "coil a at 30 most 9 rest 1", "device b by a holds a drain",
                 "kick b b for 9 till a"]
        self.assertEqual(kicks(bytes_of(text_of(lines))), [0, 1, 50, 20, 9, 40])

    def test_switches_named_like_the_words_of_the_line(self):
        lines = ["table x balls 1", "switch a at 1 close 1 open 1", "switch for at 2 close 1 open 1",
                 "switch till at 3 close 1 open 1", "coil a at 4 most 9 rest 1", "coil for at 5 most 9 rest 1",
                 "coil till at 6 most 9 rest 1", "device a by a holds a drain"]
        text = text_of(lines + ["kick for for for 7 till till", "kick till till for 8 till for"])
        self.assertEqual(kicks(bytes_of(text)), [0, 2, 2, 5, 7, 3, 3, 6, 8, 2])

    def test_whole_numbers_alone(self):
        # 0 and 1 wherever they may stand, where True and False would be equal.
        lines = ["table x balls 1", "switch a at 0 close 1 open 1", "switch b at 1 close 1 open 1",
                 "switch c at 2 close 1 open 1", "coil a at 0 most 1 rest 1", "coil b at 1 most 1 rest 1",
                 "device a by b holds c drain", "kick a a for 1 till b"]
        told = kicks(bytes_of(text_of(lines)))
        self.assertEqual(told, [0, 1, 0, 0, 1, 1])
        self.assertEqual([type(number) for number in told], [int] * 6)


if __name__ == "__main__":
    unittest.main()
