"""devices: of each its coil's place, whether it's a drain, its switches' places, its name, in the text's order."""

import unittest

from flipboards.boards import devices, judge
from flipboards.parts import Board
from flipboards.telling import tell_devices
from texts import FULL, TableCase, bytes_of, largest, named, text_of

# A place is never the part's number, and no switch has a coil's: whichever is told in another's stead is seen.
SWITCH_PLACES = [3 * k + 1 for k in range(21)]
COIL_PLACES = [3 * k + 2 for k in range(10)]


def with_devices(*lines):
    """One ball, switches s0 to s20, coils c0 to c9, and these devices, one of which has to be a drain."""
    text = ["table x balls 1"]
    text += [f"switch s{k} at {place} close 1 open 1" for k, place in enumerate(SWITCH_PLACES)]
    text += [f"coil c{k} at {place} most 1 rest 1" for k, place in enumerate(COIL_PLACES)]
    return bytes_of(text_of(text + list(lines)))


class Devices(TableCase):
    def test_none(self):
        # The drains hold a ball at least, so no text is answered with 0, 0.
        text = with_devices()
        self.assertEqual(judge(text), [-6, 8, len(text)])
        self.assertEqual(devices(text), [-6])
        self.assertEqual(tell_devices(Board((97,), 1)), [0])

    def test_no_drain(self):
        text = with_devices("device a by c2 holds s5")
        self.assertEqual(judge(text), [-6, 8, len(text)])
        self.assertEqual(devices(text), [-6])

    def test_one(self):
        self.assertEqual(devices(with_devices("device a by c2 holds s5 drain")), [0, 1, 8, 1, 1, 16, 1, 97])

    def test_several_in_the_texts_order(self):
        # Neither the names nor the coils' places nor the switches' rise.
        text = with_devices("device zz by c7 holds s9 s10", "device b by c0 holds s3 drain",
                            "device a_0 by c3 holds s0 s20 s1 drain", "device a by c1 holds s2")
        self.assertEqual(devices(text), [0, 4, 23, 0, 2, 28, 31, 2, 122, 122, 2, 1, 1, 10, 1, 98,
                                         11, 1, 3, 1, 61, 4, 3, 97, 95, 48, 5, 0, 1, 7, 1, 97])

    def test_among_every_sort(self):
        told = [0, 2]
        told += [5, 1, 8, 1, 2, 3, 4, 5, 6, 7, 8, 6] + list(b"trough")
        told += [20, 0, 1, 20, 4] + list(b"hole")
        self.assertEqual(devices(bytes_of(text_of(FULL))), told)

    def test_drains_and_others(self):
        for first, second in ((1, 0), (0, 1), (1, 1)):
            endings = [" drain" if drain else "" for drain in (first, second)]
            text = with_devices("device a by c0 holds s0 s1" + endings[0], "device b by c1 holds s2" + endings[1])
            self.assertEqual(devices(text), [0, 2, 2, first, 2, 1, 4, 1, 97, 5, second, 1, 7, 1, 98])

    def test_one_to_eight_switches(self):
        for many in range(1, 9):
            held = " ".join([f"s{k}" for k in range(many)])
            places = SWITCH_PLACES[:many]
            self.assertEqual(devices(with_devices(f"device a by c4 holds {held} drain")),
                             [0, 1, 14, 1, many] + places + [1, 97])
            self.assertEqual(devices(with_devices("device b by c0 holds s20 drain", f"device a by c4 holds {held}")),
                             [0, 2, 2, 1, 1, 61, 1, 98, 14, 0, many] + places + [1, 97])

    def test_switches_in_the_texts_order(self):
        text = with_devices("device a by c0 holds s7 s6 s5 s4 s3 s2 s1 s0", "device b by c1 holds s12 s20 s9 drain")
        self.assertEqual(devices(text), [0, 2, 2, 0, 8, 22, 19, 16, 13, 10, 7, 4, 1, 1, 97,
                                         5, 1, 3, 37, 61, 28, 1, 98])

    def test_first_and_last_places(self):
        lines = ["table x balls 1", "switch a at 0 close 1 open 1", "switch b at 63 close 1 open 1",
                 "coil a at 0 most 1 rest 1", "coil b at 31 most 1 rest 1"]
        text = text_of(lines + ["device a by b holds a drain", "device b by a holds b drain"])
        self.assertEqual(devices(bytes_of(text)), [0, 2, 31, 1, 1, 0, 1, 97, 0, 1, 1, 63, 1, 98])
        text = text_of(lines + ["device a by b holds b a drain"])
        self.assertEqual(devices(bytes_of(text)), [0, 1, 31, 1, 2, 63, 0, 1, 97])

    def test_eight(self):
        told = [0, 8]
        for k in range(8):
            told += [k, 1, 7] + list(range(7 * k, 7 * k + 7)) + [12] + list(b"device_no_%02d" % k)
        self.assertEqual(devices(bytes_of(largest())), told)

    def test_eight_with_eight_switches_each(self):
        lines = ["table x balls 8"]
        lines += [f"switch s{place} at {place} close 1 open 1" for place in range(64)]
        lines += [f"coil c{place} at {place} most 1 rest 1" for place in range(8)]
        told = [0, 8]
        for k in range(8):
            held = list(range(63 - k, -1, -8))
            ending = " drain" if k % 2 else ""
            lines.append(f"device d{k} by c{7 - k} holds " + " ".join([f"s{place}" for place in held]) + ending)
            told += [7 - k, k % 2, 8] + held + named(f"d{k}")
        self.assertEqual(devices(bytes_of(text_of(lines))), told)

    def test_names(self):
        # s0 is a switch's name too, c9 a coil's, x the table's; s1 and c0 are those of this device's own parts.
        names = ("a", "z", "a0", "z_", "drain", "device", "holds", "abcdefghijk", "abcdefghij_9",
                 "s0", "c9", "x", "s1", "c0")
        for name in names:
            text = with_devices(f"device {name} by c0 holds s1 drain", "device b by c1 holds s2")
            self.assertEqual(devices(text), [0, 2, 2, 1, 1, 4] + named(name) + [5, 0, 1, 7, 1, 98])

    def test_name_of_twelve_bytes(self):
        self.assertEqual(devices(with_devices("device abcdefghij_9 by c0 holds s1 drain")),
                         [0, 1, 2, 1, 1, 4, 12] + list(b"abcdefghij_9"))

    def test_switch_and_coil_that_share_a_name(self):
        lines = ["table x balls 1", "switch a at 40 close 1 open 1", "lamp a at 50", "coil a at 30 most 1 rest 1",
                 "device a by a holds a drain"]
        self.assertEqual(devices(bytes_of(text_of(lines))), [0, 1, 30, 1, 1, 40, 1, 97])

    def test_drain_is_a_whole_number(self):
        told = devices(with_devices("device a by c0 holds s0 drain", "device b by c1 holds s1"))
        self.assertEqual(told, [0, 2, 2, 1, 1, 1, 1, 97, 5, 0, 1, 4, 1, 98])
        self.assertEqual([type(number) for number in told], [int] * 14)


if __name__ == "__main__":
    unittest.main()
