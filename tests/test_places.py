"""places: rising places of the switches, lamps or coils that what chooses; -2 and -6 before -1."""

import unittest

from flipboards.boards import judge, places
from texts import FAULTY, FULL, SMALLEST, TableCase, Untouched, bytes_of, largest, text_of

ABOVE = (7, 8, 255, 256, 2 ** 31, 2 ** 32 - 1)


def told(what, lines):
    return places(what, bytes_of(text_of(lines)))


def with_switches(places_of_plain, places_of_turned):
    """A right text with switches at these places and no others; the first one stands in the drain."""
    lines = []
    for place in sorted(places_of_plain + places_of_turned):
        ending = " turned" if place in places_of_turned else ""
        lines.append(f"switch s{place} at {place} close 1 open 1{ending}")
    first = min(places_of_plain + places_of_turned)
    return SMALLEST[:1] + lines + SMALLEST[2:3] + [f"device a by a holds s{first} drain"]


def with_lamps(lamp_places):
    return SMALLEST[:2] + [f"lamp l{place} at {place}" for place in lamp_places] + SMALLEST[2:]


def with_coils(places_of_plain, places_of_holding):
    """A right text with coils at these places and no others; the first one serves the drain."""
    lines = []
    for place in sorted(places_of_plain + places_of_holding):
        ending = " hold 1" if place in places_of_holding else ""
        lines.append(f"coil c{place} at {place} most 1 rest 1{ending}")
    first = min(places_of_plain + places_of_holding)
    return SMALLEST[:2] + lines + [f"device a by c{first} holds a drain"]


def with_lines(*lines):
    """Switches s0 to s63 and coils c0 to c31 at these places, all plain, and these devices and kicks."""
    text = ["table x balls 1"]
    text += [f"switch s{place} at {place} close 1 open 1" for place in range(64)]
    text += [f"coil c{place} at {place} most 255 rest 1" for place in range(32)]
    return text + list(lines)


class Switches(TableCase):
    def test_one(self):
        for place in (0, 1, 62, 63):
            self.assertEqual(told(0, with_switches([place], [])), [0, place])
            self.assertEqual(told(0, with_switches([], [place])), [0, place])

    def test_several(self):
        self.assertEqual(told(0, with_switches([0, 5, 40], [3, 63])), [0, 0, 3, 5, 40, 63])

    def test_all(self):
        self.assertEqual(told(0, with_switches(list(range(64)), [])), [0] + list(range(64)))
        self.assertEqual(places(0, bytes_of(largest())), [0] + list(range(64)))

    def test_turned_ones(self):
        self.assertEqual(told(1, with_switches([0, 5, 40, 63], [])), [0])
        self.assertEqual(told(1, with_switches([5, 40], [20])), [0, 20])
        self.assertEqual(told(1, with_switches([5, 40], [0, 63])), [0, 0, 63])
        self.assertEqual(told(1, with_switches([0, 63], [1, 31, 32, 62])), [0, 1, 31, 32, 62])
        self.assertEqual(told(1, with_switches([], [9])), [0, 9])

    def test_all_turned(self):
        self.assertEqual(told(1, with_switches([], list(range(64)))), [0] + list(range(64)))
        self.assertEqual(told(1, with_switches(list(range(0, 64, 2)), list(range(1, 64, 2)))),
                         [0] + list(range(1, 64, 2)))

    def test_switch_that_is_called_turned(self):
        lines = ["switch turned at 8 close 1 open 1", "switch b at 9 close 1 open 1 turned"]
        self.assertEqual(told(1, SMALLEST[:2] + lines + SMALLEST[2:]), [0, 9])


class Lamps(TableCase):
    def test_none(self):
        self.assertEqual(told(2, with_lamps([])), [0])

    def test_one(self):
        for place in (0, 1, 62, 63):
            self.assertEqual(told(2, with_lamps([place])), [0, place])

    def test_several(self):
        self.assertEqual(told(2, with_lamps([0, 9, 10, 50, 63])), [0, 0, 9, 10, 50, 63])

    def test_all(self):
        self.assertEqual(told(2, with_lamps(range(64))), [0] + list(range(64)))


class Coils(TableCase):
    def test_one(self):
        for place in (0, 1, 30, 31):
            self.assertEqual(told(3, with_coils([place], [])), [0, place])
            self.assertEqual(told(3, with_coils([], [place])), [0, place])

    def test_several(self):
        self.assertEqual(told(3, with_coils([0, 9, 30], [10, 31])), [0, 0, 9, 10, 30, 31])

    def test_all(self):
        self.assertEqual(told(3, with_coils(list(range(32)), [])), [0] + list(range(32)))
        self.assertEqual(places(3, bytes_of(largest())), [0] + list(range(32)))

    def test_those_with_a_hold(self):
        self.assertEqual(told(6, with_coils([0, 9, 31], [])), [0])
        self.assertEqual(told(6, with_coils([0, 9, 31], [10])), [0, 10])
        self.assertEqual(told(6, with_coils([9, 10], [0, 31])), [0, 0, 31])
        self.assertEqual(told(6, with_coils([0, 31], [1, 15, 16, 30])), [0, 1, 15, 16, 30])
        self.assertEqual(told(6, with_coils([], [7])), [0, 7])

    def test_all_with_a_hold(self):
        self.assertEqual(told(6, with_coils([], list(range(32)))), [0] + list(range(32)))

    def test_each_hold(self):
        for hold in range(1, 16):
            lines = SMALLEST[:3] + [f"coil b at 9 most 1 rest 1 hold {hold}"] + SMALLEST[3:]
            self.assertEqual(told(6, lines), [0, 9])

    def test_coil_that_is_called_hold(self):
        lines = SMALLEST[:3] + ["coil hold at 8 most 1 rest 1", "coil b at 9 most 1 rest 1 hold 1"] + SMALLEST[3:]
        self.assertEqual(told(6, lines), [0, 9])


class Held(TableCase):
    def test_one(self):
        for place in (0, 1, 62, 63):
            self.assertEqual(told(4, with_lines(f"device a by c9 holds s{place} drain")), [0, place])

    def test_one_device_that_does_not_rise(self):
        self.assertEqual(told(4, with_lines("device a by c9 holds s63 s5 s40 s0 s41 drain")), [0, 0, 5, 40, 41, 63])
        self.assertEqual(told(4, with_lines("device a by c9 holds s8 s7 s6 s5 s4 s3 s2 s1 drain")),
                         [0, 1, 2, 3, 4, 5, 6, 7, 8])

    def test_several_devices_that_do_not_rise(self):
        # Each rises by itself, but they stand within one another.
        lines = with_lines("device a by c9 holds s10 s30", "device b by c1 holds s0 s20 s63 drain",
                           "device c by c5 holds s9", "device d by c0 holds s31 s29")
        self.assertEqual(told(4, lines), [0, 0, 9, 10, 20, 29, 30, 31, 63])
        lines = with_lines("device a by c0 holds s50 s51 drain", "device b by c1 holds s40",
                           "device c by c2 holds s1 s2")
        self.assertEqual(told(4, lines), [0, 1, 2, 40, 50, 51])

    def test_drains_and_others(self):
        lines = with_lines("device a by c9 holds s2 s1 drain", "device b by c1 holds s4 s3")
        self.assertEqual(told(4, lines), [0, 1, 2, 3, 4])

    def test_all(self):
        lines = [f"device d{k} by c{k} holds " + " ".join([f"s{63 - k - 8 * j}" for j in range(8)]) + " drain"
                 for k in range(8)]
        self.assertEqual(told(4, with_lines(*lines)), [0] + list(range(64)))

    def test_switches_of_kicks_are_not_told(self):
        lines = with_lines("device a by c9 holds s30 s20 drain", "kick s10 c1 for 1 till s40",
                           "kick s25 c2 for 1 till s20")
        self.assertEqual(told(4, lines), [0, 20, 30])


class Kicking(TableCase):
    def test_none(self):
        self.assertEqual(told(5, with_lines("device a by c9 holds s30 drain")), [0])

    def test_one(self):
        for place in (0, 1, 62, 63):
            lines = with_lines("device a by c9 holds s30 drain", f"kick s{place} c1 for 1")
            self.assertEqual(told(5, lines), [0, place])

    def test_first_switches_alone(self):
        lines = with_lines("device a by c9 holds s30 drain", "kick s10 c1 for 1 till s63", "kick s20 c2 for 1 till s0",
                           "kick s40 c3 for 1 till s30", "kick s50 c4 for 1")
        self.assertEqual(told(5, lines), [0, 10, 20, 40, 50])

    def test_second_switch_that_is_another_ones_first(self):
        lines = with_lines("device a by c9 holds s30 drain", "kick s10 c1 for 1 till s20", "kick s20 c2 for 1 till s10")
        self.assertEqual(told(5, lines), [0, 10, 20])

    def test_eight(self):
        kicking = (0, 1, 9, 17, 31, 32, 62, 63)
        lines = [f"kick s{place} c{8 - k} for 1" for k, place in enumerate(kicking)]
        self.assertEqual(told(5, with_lines("device a by c9 holds s30 drain", *lines)), [0] + list(kicking))
        self.assertEqual(places(5, bytes_of(largest())), [0] + list(range(56, 64)))


class EachWhat(TableCase):
    def test_smallest(self):
        self.assertEqual([told(what, SMALLEST) for what in range(7)], [[0, 0], [0], [0], [0, 0], [0, 0], [0], [0]])

    def test_every_sort(self):
        held = [1, 2, 3, 4, 5, 6, 7, 8, 20]
        self.assertEqual([told(what, FULL) for what in range(7)],
                         [[0] + held + [30, 40], [0, 20, 40], [0, 10, 20], [0, 5, 10, 15, 20], [0] + held,
                          [0, 30, 40], [0, 10]])

    def test_each_tells_other_places(self):
        lines = ["table x balls 1", "switch a at 11 close 1 open 1", "switch b at 12 close 1 open 1 turned",
                 "switch c at 13 close 1 open 1", "lamp a at 20", "lamp b at 21", "coil a at 4 most 1 rest 1",
                 "coil b at 5 most 1 rest 1 hold 1", "device b by b holds c drain", "kick a a for 1 till b"]
        self.assertEqual([told(what, lines) for what in range(8)],
                         [[0, 11, 12, 13], [0, 12], [0, 20, 21], [0, 4, 5], [0, 13], [0, 11], [0, 5], [-1]])


class Refused(TableCase):
    def test_what_above_6(self):
        for what in ABOVE:
            for lines in (SMALLEST, FULL):
                self.assertEqual(told(what, lines), [-1], what)
            self.assertEqual(places(what, bytes_of(largest())), [-1], what)

    def test_too_long_before_all(self):
        right = bytes_of(text_of(FULL))
        for text in (right + [10] * (16385 - len(right)), [0] * 16385, right * 40, [255] * 20000):
            self.assertGreater(len(text), 16384)
            for what in tuple(range(7)) + ABOVE:
                self.assertEqual(places(what, text), [-2], what)

    def test_each_kind_of_fault_before_all(self):
        for kind, text in enumerate(FAULTY, 1):
            self.assertEqual(judge(bytes_of(text))[:2], [-6, kind])
            for what in tuple(range(7)) + ABOVE:
                self.assertEqual(places(what, bytes_of(text)), [-6], (kind, what))

    def test_no_text_at_all(self):
        for what in tuple(range(7)) + ABOVE:
            self.assertEqual(places(what, []), [-6], what)

    def test_text_as_long_as_may_be(self):
        right = bytes_of(text_of(FULL))
        for what in tuple(range(7)) + ABOVE:
            self.assertEqual(places(what, right + [10] * (16384 - len(right))), [-6], what)


class AsTheInterfaceTells(TableCase):
    def test_arguments_by_name(self):
        text = bytes_of(text_of(FULL))
        self.assertEqual(places(what=1, text=text), [0, 20, 40])
        self.assertEqual(places(1, text), [0, 20, 40])

    def test_text_stays_as_it_was(self):
        for lines in (text_of(FULL), largest(), FAULTY[4], "x" * 16385):
            for what in tuple(range(7)) + ABOVE:
                text = bytes_of(lines)
                first = places(what, text)
                self.assertEqual(text, bytes_of(lines))
                self.assertEqual(places(what, text), first)
                self.assertEqual(places(what, Untouched(text)), first)

    def test_nothing_is_kept(self):
        for again in range(2):
            self.assertEqual([told(0, with_switches([3], [])), told(0, with_switches([4], [5]))], [[0, 3], [0, 4, 5]])
            self.assertEqual([told(5, FULL), told(5, SMALLEST)], [[0, 30, 40], [0]])

    def test_answer_is_the_callers_own(self):
        text = bytes_of(text_of(FULL))
        for what in tuple(range(7)) + ABOVE:
            answer = places(what, text)
            kept = list(answer)
            answer.append(9)
            self.assertEqual(places(what, text), kept)

    def test_whole_numbers_alone(self):
        # Places 0 and 1, where True and False would be equal.
        lines = ["table x balls 1", "switch a at 0 close 1 open 1 turned", "switch b at 1 close 1 open 1 turned",
                 "lamp a at 0", "lamp b at 1", "coil a at 0 most 1 rest 1 hold 1", "coil b at 1 most 1 rest 1 hold 1",
                 "device a by a holds a drain", "kick b b for 1"]
        for what in tuple(range(7)) + ABOVE:
            answer = told(what, lines)
            self.assertIs(type(answer), list)
            self.assertEqual({type(number) for number in answer}, {int}, what)


if __name__ == "__main__":
    unittest.main()
