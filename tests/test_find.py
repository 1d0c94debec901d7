"""find: the place of a switch, lamp or coil by its name, the number of a device; -2 and -6 before -1, -1 before -4."""

import unittest

from flipboards.boards import find, judge
from texts import FAULTY, FULL, SMALLEST, TableCase, Untouched, bytes_of, largest, lines_of, swapped, text_of

SORTS = ("switch", "lamp", "coil", "device")
ABOVE = (4, 5, 255, 2 ** 31, 2 ** 32 - 1)

# Of every sort three parts, whose places are neither their numbers nor those of another sort.
THREE = [
    "table own balls 1",
    "switch s_a at 11 close 1 open 1",
    "switch both at 22 close 1 open 1",
    "switch s_c at 33 close 1 open 1",
    "lamp all at 4",
    "lamp both at 14",
    "lamp l_c at 24",
    "coil c_a at 7 most 1 rest 1",
    "coil all at 17 most 1 rest 1",
    "coil c_c at 27 most 1 rest 1",
    "device d_a by c_c holds s_c",
    "device d_b by all holds s_a drain",
    "device all by c_a holds both",
]


def found(sort, name, lines=None):
    return find(sort, bytes_of(text_of(lines or THREE)), bytes_of(name))


class Found(TableCase):
    def test_switches(self):
        self.assertEqual([found(0, name) for name in ("s_a", "both", "s_c")], [[0, 11], [0, 22], [0, 33]])

    def test_lamps(self):
        self.assertEqual([found(1, name) for name in ("all", "both", "l_c")], [[0, 4], [0, 14], [0, 24]])

    def test_coils(self):
        self.assertEqual([found(2, name) for name in ("c_a", "all", "c_c")], [[0, 7], [0, 17], [0, 27]])

    def test_devices_by_their_number(self):
        self.assertEqual([found(3, name) for name in ("d_a", "d_b", "all")], [[0, 0], [0, 1], [0, 2]])

    def test_name_that_several_sorts_have(self):
        self.assertEqual([found(sort, "all") for sort in range(4)], [[-4], [0, 4], [0, 17], [0, 2]])
        self.assertEqual([found(sort, "both") for sort in range(4)], [[0, 22], [0, 14], [-4], [-4]])

    def test_name_that_every_sort_has(self):
        lines = ["table a balls 1", "switch a at 40 close 1 open 1", "lamp a at 50", "coil a at 30 most 1 rest 1",
                 "device a by a holds a drain"]
        self.assertEqual([found(sort, "a", lines) for sort in range(4)], [[0, 40], [0, 50], [0, 30], [0, 0]])

    def test_first_and_last_places(self):
        lines = ["table x balls 1", "switch a at 0 close 1 open 1", "switch b at 63 close 1 open 1", "lamp a at 0",
                 "lamp b at 63", "coil a at 0 most 1 rest 1", "coil b at 31 most 1 rest 1",
                 "device b by b holds b drain", "device a by a holds a drain"]
        self.assertEqual([found(sort, "a", lines) for sort in range(4)], [[0, 0], [0, 0], [0, 0], [0, 1]])
        self.assertEqual([found(sort, "b", lines) for sort in range(4)], [[0, 63], [0, 63], [0, 31], [0, 0]])

    def test_every_name_of_a_text_in_every_sort(self):
        for text in (text_of(SMALLEST), text_of(FULL), text_of(THREE)):
            self.check_finds(text, [words[1] for sort in SORTS for words in lines_of(text, sort)])

    def test_as_many_as_there_can_be(self):
        text = bytes_of(largest())
        for place in range(64):
            self.assertEqual(find(0, text, list(b"switch_no_%02d" % place)), [0, place])
            self.assertEqual(find(1, text, list(b"lamp_numb_%02d" % place)), [0, place])
        for place in range(32):
            self.assertEqual(find(2, text, list(b"coil_numb_%02d" % place)), [0, place])
        for number in range(8):
            self.assertEqual(find(3, text, list(b"device_no_%02d" % number)), [0, number])

    def test_device_number_among_eight_is_not_its_coils_place(self):
        lines = ["table x balls 1"]
        lines += [f"switch s{k} at {k + 20} close 1 open 1" for k in range(8)]
        lines += [f"coil c{k} at {k + 10} most 1 rest 1" for k in range(8)]
        lines += [f"device d{7 - k} by c{(5 * k) % 8} holds s{(3 * k) % 8} drain" for k in range(8)]
        self.assertEqual([found(3, f"d{7 - k}", lines) for k in range(8)], [[0, k] for k in range(8)])


class NotFound(TableCase):
    def check_none(self, name):
        for sort in range(4):
            self.assertEqual(find(sort, bytes_of(text_of(THREE)), name), [-4], (sort, name))

    def test_name_that_only_another_sort_has(self):
        for own, name in enumerate(("s_a", "l_c", "c_c", "d_b")):
            for sort in range(4):
                self.assertEqual(found(sort, name) == [-4], sort != own, (sort, name))

    def test_tables_own_name(self):
        self.check_none(list(b"own"))
        lines = [line.replace("own", "s_a") for line in THREE]
        self.assertEqual([found(sort, "s_a", lines) for sort in range(4)], [[0, 11], [-4], [-4], [-4]])

    def test_words_of_the_lines(self):
        for name in ("table", "balls", "switch", "at", "lamp", "coil", "most", "device", "by", "holds", "drain", "1"):
            self.check_none(bytes_of(name))

    def test_sort_without_parts(self):
        for name in ("", "a", "own", "loop"):
            self.assertEqual(found(1, name, SMALLEST), [-4])

    def test_no_byte(self):
        self.check_none([])

    def test_long_names(self):
        for many in (12, 13, 299, 300):
            self.check_none([97] * many)
            self.check_none([0] * many)
            self.check_none([255] * many)

    def test_name_of_twelve_bytes_and_one_more(self):
        text = bytes_of(largest())
        for sort, name in enumerate((b"switch_no_07", b"lamp_numb_07", b"coil_numb_07", b"device_no_07")):
            self.assertEqual(find(sort, text, list(name)), [0, 7])
            self.assertEqual(find(sort, text, list(name[:11])), [-4])
            self.assertEqual(find(sort, text, list(name[1:])), [-4])
            self.assertEqual(find(sort, text, list(name) + [48]), [-4])
            self.assertEqual(find(sort, text, list(name * 25)), [-4])

    def test_bytes_that_no_name_has(self):
        for byte in (0, 1, 10, 32, 65, 127, 128, 255):
            self.check_none([byte])
            for name in (b"s_a", b"all", b"both", b"c_c", b"d_a"):
                self.check_none(list(name) + [byte])
                self.check_none([byte] + list(name))
                self.check_none([name[0], byte] + list(name[2:]))

    def test_bytes_that_stand_about_a_name_in_the_text(self):
        for name in (" s_a ", "s_a at", "switch s_a", "\nswitch s_a", "all\n", "s_a drain"):
            self.check_none(bytes_of(name))

    def test_beginnings_and_endings(self):
        for name in ("s_a", "all", "both", "c_c", "d_a"):
            for end in range(len(name)):
                self.check_none(bytes_of(name[:end]))
                self.check_none(bytes_of(name[end + 1:]))

    def test_a_byte_more(self):
        for name in ("s_a", "all", "both", "c_c", "d_a"):
            for more in "a0_":
                self.check_none(bytes_of(name + more))

    def test_name_that_begins_with_another(self):
        lines = ["table x balls 1", "switch abc at 1 close 1 open 1", "switch ab at 2 close 1 open 1",
                 "switch a at 3 close 1 open 1"] + SMALLEST[2:]
        self.assertEqual([found(0, name, lines) for name in ("abc", "ab", "a", "b", "abcd")],
                         [[0, 1], [0, 2], [0, 3], [-4], [-4]])

    def test_capitals(self):
        for name in ("S_A", "ALL", "Both"):
            self.check_none(bytes_of(name))


class Refused(TableCase):
    def test_sort_above_3(self):
        for sort in ABOVE:
            for name in ("all", "both", "s_a", "d_a"):
                self.assertEqual(found(sort, name), [-1], (sort, name))

    def test_sort_above_3_before_a_name_that_is_not_there(self):
        for sort in ABOVE:
            for name in ("", "nobody", "own", "a" * 12, "a" * 13, "a" * 300, "\x00", "\n", " ", "\xff"):
                self.assertEqual(found(sort, name), [-1], (sort, name))

    def test_too_long_before_all(self):
        right = bytes_of(text_of(THREE))
        for text in (right + [10] * (16385 - len(right)), [0] * 16385, right * 60, [255] * 20000):
            self.assertGreater(len(text), 16384)
            for sort in tuple(range(4)) + ABOVE:
                for name in ("all", "nobody", "", "a" * 300):
                    self.assertEqual(find(sort, text, bytes_of(name)), [-2], (sort, name))

    def test_each_kind_of_fault_before_all(self):
        for kind, text in enumerate(FAULTY, 1):
            self.assertEqual(judge(bytes_of(text))[:2], [-6, kind])
            for sort in tuple(range(4)) + ABOVE:
                for name in ("left", "trough", "nobody", "", "a" * 300):
                    self.assertEqual(find(sort, bytes_of(text), bytes_of(name)), [-6], (kind, sort, name))

    def test_fault_behind_the_part_that_is_asked_for(self):
        text = bytes_of(swapped("kick right right for 30", "kick right right for 31"))
        self.assertEqual(find(0, text, list(b"t1")), [-6])
        self.assertEqual(find(3, text, list(b"trough")), [-6])

    def test_no_text_at_all(self):
        self.assertEqual(find(0, [], []), [-6])
        self.assertEqual(find(4, [], []), [-6])


class AsTheInterfaceTells(TableCase):
    def test_arguments_by_name(self):
        text = bytes_of(text_of(THREE))
        self.assertEqual(find(sort=2, text=text, name=list(b"all")), [0, 17])
        self.assertEqual(find(2, text, list(b"all")), [0, 17])

    def test_text_and_name_stay_as_they_were(self):
        for lines in (text_of(THREE), FAULTY[3], "x" * 16385):
            for sort in (0, 1, 2, 3, 4, 2 ** 32 - 1):
                for word in ("all", "s_a", "nobody", "", "a" * 300):
                    text = bytes_of(lines)
                    name = bytes_of(word)
                    first = find(sort, text, name)
                    self.assertEqual((text, name), (bytes_of(lines), bytes_of(word)))
                    self.assertEqual(find(sort, text, name), first)
                    self.assertEqual(find(sort, Untouched(text), Untouched(name)), first)

    def test_nothing_is_kept(self):
        # Another text in between, in which the same name stands at another place or not at all.
        other = [line.replace("at 11", "at 12").replace("at 4", "at 5") for line in THREE]
        for again in range(2):
            self.assertEqual([found(0, "s_a"), found(0, "s_a", other), found(0, "s_a", FULL)], [[0, 11], [0, 12], [-4]])
            self.assertEqual([found(1, "all"), found(1, "all", other), found(1, "all", FULL)], [[0, 4], [0, 5], [-4]])

    def test_name_and_text_that_are_one_list(self):
        handed = bytes_of("all")
        self.assertEqual(find(0, handed, handed), [-6])
        self.assertEqual(handed, bytes_of("all"))

    def test_whole_numbers_alone(self):
        # 0 and 1 as places and numbers, where True and False would be equal.
        lines = ["table x balls 1", "switch a at 0 close 1 open 1", "switch b at 1 close 1 open 1", "lamp a at 0",
                 "lamp b at 1", "coil a at 0 most 1 rest 1", "coil b at 1 most 1 rest 1",
                 "device a by a holds a drain", "device b by b holds b"]
        for sort in range(5):
            for name in ("a", "b", "c"):
                told = found(sort, name, lines)
                self.assertIs(type(told), list)
                self.assertEqual({type(number) for number in told}, {int})


if __name__ == "__main__":
    unittest.main()
