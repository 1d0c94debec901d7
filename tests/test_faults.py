"""Each kind of fault with its place, case by case as DOC.md lists them."""

import unittest

from texts import FULL, SMALLEST, TableCase, bytes_of, swapped, text_of

TABLE = "table night_9 balls 8"
SWITCH = "switch hole at 20 close 4 open 5 turned"
BARE_SWITCH = "switch t1 at 1 close 4 open 5"
LAMP = "lamp left at 10"
COIL = "coil left at 10 most 300 rest 50 hold 3"
BARE_COIL = "coil trough at 5 most 300 rest 50"
DRAIN = "device trough by trough holds t1 t2 t3 t4 t5 t6 t7 t8 drain"
DEVICE = "device hole by loop holds hole"
KICK = "kick left left for 200 till right"
BARE_KICK = "kick right right for 30"

NO_NAMES = ("9a", "_a", "A", "aB", "a-b", "a.", "`", "{", "a{", "a`", "a/", "a:", "a@", "abcdefghijklm", "1", "~", "!")
NO_NUMBERS = ("00", "01", "0x1", "-1", "+1", "1.", "1_0", "a", "one", "1a", "/", ":", "1/", "1:", "9" * 5000)

# Of each sort a line of FULL and its shortest form.
WHOLE_LINES = [
    (TABLE, "table night_9 balls 8"),
    (SWITCH, "switch hole at 20 close 4 open 5"),
    (LAMP, "lamp left at 10"),
    (COIL, "coil left at 10 most 300 rest 50"),
    (DRAIN, "device trough by trough holds t1"),
    (KICK, "kick left left for 200"),
]


def nine_devices(last):
    lines = ["table x balls 1"]
    lines += [f"switch s{at} at {at} close 1 open 1" for at in range(10)]
    lines += [f"coil c{at} at {at} most 1 rest 1" for at in range(10)]
    lines += [f"device d{k} by c{k} holds s{k} drain" for k in range(8)]
    return text_of(lines + [last])


def nine_kicks(last):
    lines = ["table x balls 1"]
    lines += [f"switch s{at} at {at} close 1 open 1" for at in range(10)]
    lines += [f"coil c{at} at {at} most 1 rest 1" for at in range(10)]
    lines += ["device d by c0 holds s0 drain"]
    lines += [f"kick s{k} c{k} for 1" for k in range(1, 9)]
    return text_of(lines + [last])


class Kind1(TableCase):
    def test_no_byte(self):
        self.check_fault_at(1, 0, [])

    def test_last_line_not_ended(self):
        self.check_fault(1, text_of(FULL)[:-1] + "^")
        self.check_fault(1, text_of(SMALLEST)[:-1] + "^")
        self.check_fault(1, text_of(FULL) + "k^")
        self.check_fault(1, "t^")

    def test_its_bytes_and_words_are_not_looked_at(self):
        for rest in (" ", "  ", "\t", "\r", "\x7f", "\xff", "table", "what", "kick 9 9", "lamp x at 64"):
            self.check_fault(1, text_of(FULL) + rest + "^")
            self.check_fault(1, rest + "^")


class Kind2(TableCase):
    def test_bytes(self):
        for byte in range(256):
            if byte < 32 and byte != 10 or byte > 126:
                text = bytes_of(swapped(LAMP, "lamp left at 1?"))
                place = text.index(ord("?"))
                text[place] = byte
                self.check_fault_at(2, place, text)

    def test_bytes_at_the_edge_are_taken_for_words(self):
        for sign in ("!", "~"):
            self.check_fault(4, swapped(LAMP, f"lamp ^{sign} at 10"))

    def test_byte_as_first_and_last_of_a_line(self):
        self.check_fault(2, "^\x00" + text_of(FULL))
        self.check_fault(2, swapped(LAMP, "^\tlamp left at 10"))
        self.check_fault(2, swapped(LAMP, "lamp left at 10^\r"))

    def test_blank_at_the_beginning(self):
        self.check_fault(2, "^ " + text_of(FULL))
        self.check_fault(2, swapped(LAMP, "^ lamp left at 10"))
        self.check_fault(2, swapped(LAMP, "^  lamp left at 10"))
        self.check_fault(2, swapped(LAMP, LAMP, "^ "))

    def test_blank_behind_a_blank(self):
        self.check_fault(2, swapped(LAMP, "lamp ^ left at 10"))
        self.check_fault(2, swapped(LAMP, "lamp ^  left at 10"))
        self.check_fault(2, swapped(LAMP, "lamp left at 10 ^ "))

    def test_blank_before_the_end(self):
        self.check_fault(2, swapped(LAMP, "lamp left at 10^ "))
        self.check_fault(2, swapped(TABLE, "table night_9 balls 8^ "))
        self.check_fault(2, text_of(FULL[:-1]) + BARE_KICK + "^ \n")


class Kind3(TableCase):
    def test_first_line_is_no_table(self):
        for word in ("switch", "lamp", "coil", "device", "kick", "tables", "tabl", "Table", "9"):
            self.check_fault(3, swapped(TABLE, f"^{word} night_9 balls 8"))
        self.check_fault(3, "^" + text_of(FULL[1:]))

    def test_first_word_is_none(self):
        for word in ("lamps", "lam", "Lamp", "left", "at", "1", "turned", "table"):
            self.check_fault(3, swapped(LAMP, f"^{word} left at 10"))
        self.check_fault(3, swapped(LAMP, "^table night_9 balls 8", LAMP))
        self.check_fault(3, text_of(FULL) + "^table night_9 balls 8\n")

    def test_sort_that_cannot_come_any_more(self):
        late = ["switch z at 60 close 1 open 1", "lamp z at 60", "coil z at 30 most 1 rest 1",
                "device z by right holds left"]
        later = [LAMP, BARE_COIL, DRAIN, KICK]
        for sort, line in enumerate(late):
            for before in later[sort:]:
                self.check_fault(3, swapped(before, before, "^" + line))

    def test_each_sort_may_come_till_the_next(self):
        self.check_right(swapped(LAMP, "switch z at 60 close 1 open 1", LAMP))
        self.check_right(swapped("lamp drain at 20", "lamp drain at 20", "lamp z at 60"))
        self.check_right(swapped("coil loop at 20 most 300 rest 50", "coil loop at 20 most 300 rest 50",
                                 "coil z at 30 most 1 rest 1"))

    def test_empty_line(self):
        self.check_fault(3, "^\n")
        self.check_fault(3, "^\n" + text_of(FULL))
        self.check_fault(3, swapped(LAMP, "^", LAMP))
        self.check_fault(3, text_of(FULL) + "^\n")

    def test_missing_word(self):
        for line, whole in WHOLE_LINES:
            words = whole.split(" ")
            for many in range(1, len(words)):
                self.check_fault(3, swapped(line, " ".join(words[:many]) + "^"))
        self.check_fault(3, swapped(COIL, "coil left at 10 most 300 rest 50 hold^"))
        self.check_fault(3, swapped(KICK, "kick left left for 200 till^"))

    def test_missing_word_in_the_middle(self):
        self.check_fault(3, swapped(LAMP, "lamp left ^10"))
        self.check_fault(3, swapped(SWITCH, "switch hole at 20 ^open 5 turned"))
        self.check_fault(3, swapped(DEVICE, "device hole by loop ^hole"))

    def test_word_too_many(self):
        for line in (TABLE, SWITCH, LAMP, COIL, DRAIN, KICK):
            for word in ("more", "1", "turned", "hold", "drain", "till", "X"):
                self.check_fault(3, swapped(line, f"{line} ^{word}"))
                self.check_fault(3, swapped(line, f"{line} ^{word} {word}"))

    def test_wrong_ending(self):
        for line in (BARE_SWITCH, BARE_COIL, BARE_KICK):
            for word in ("turn", "held", "drain", "1", "X"):
                self.check_fault(3, swapped(line, f"{line} ^{word}"))
        self.check_fault(3, swapped(BARE_SWITCH, f"{BARE_SWITCH} ^hold 3"))
        self.check_fault(3, swapped(BARE_COIL, f"{BARE_COIL} ^turned"))
        self.check_fault(3, swapped(BARE_KICK, f"{BARE_KICK} ^t1"))

    def test_words_that_have_to_be(self):
        fixed = [(TABLE, "balls"), (SWITCH, "at"), (SWITCH, "close"), (SWITCH, "open"), (LAMP, "at"), (COIL, "at"),
                 (COIL, "most"), (COIL, "rest"), (DEVICE, "by"), (DEVICE, "holds"), (KICK, "for"), (SWITCH, "turned"),
                 (COIL, "hold"), (KICK, "till")]
        for line, word in fixed:
            for wrong in (word + "s", word[:-1], word.upper(), "9"):
                self.check_fault(3, swapped(line, line.replace(f" {word}", f" ^{wrong}")))

    def test_ninth_device(self):
        self.check_fault(3, nine_devices("^device d8 by c8 holds s8"))
        self.check_fault(3, nine_devices("^device"))
        self.check_right(nine_devices("kick s8 c8 for 1"))

    def test_ninth_kick(self):
        self.check_fault(3, nine_kicks("^kick s9 c9 for 1"))
        self.check_fault(3, nine_kicks("^kick"))
        self.check_right(nine_kicks("")[:-1])

    def test_ninth_switch_of_a_device(self):
        eight = "device trough by trough holds t1 t2 t3 t4 t5 t6 t7 t8"
        for word in ("hole", "t1", "unknown", "X", "9", "drains"):
            self.check_fault(3, swapped(DRAIN, f"{eight} ^{word}"))
            self.check_fault(3, swapped(DRAIN, f"{eight} ^{word} drain"))

    def test_behind_drain(self):
        self.check_fault(3, swapped(DEVICE, "device hole by loop holds hole drain ^drain"))
        self.check_fault(3, swapped(DEVICE, "device hole by loop holds hole drain ^left"))


class Kind4(TableCase):
    def test_no_name(self):
        gaps = [(TABLE, "table ^{} balls 8"), (SWITCH, "switch ^{} at 20 close 4 open 5"), (LAMP, "lamp ^{} at 10"),
                (COIL, "coil ^{} at 10 most 300 rest 50"), (DEVICE, "device ^{} by loop holds hole"),
                (DEVICE, "device hole by ^{} holds hole"), (DEVICE, "device hole by loop holds ^{}"),
                (DEVICE, "device hole by loop holds hole ^{}"), (DEVICE, "device hole by loop holds hole ^{} drain"),
                (KICK, "kick ^{} left for 200"), (KICK, "kick left ^{} for 200"),
                (KICK, "kick left left for 200 till ^{}")]
        for line, gap in gaps:
            for word in NO_NAMES:
                self.check_fault(4, swapped(line, gap.replace("{}", word)))

    def test_drain_for_a_new_switch(self):
        self.check_fault(4, swapped(SWITCH, "switch ^drain at 20 close 4 open 5"))

    def test_loop_for_a_new_lamp(self):
        self.check_fault(4, swapped(LAMP, "lamp ^loop at 10"))

    def test_no_number(self):
        gaps = [(TABLE, "table night_9 balls ^{}"), (SWITCH, "switch hole at ^{} close 4 open 5"),
                (SWITCH, "switch hole at 20 close ^{} open 5"), (SWITCH, "switch hole at 20 close 4 open ^{}"),
                (LAMP, "lamp left at ^{}"), (COIL, "coil left at ^{} most 300 rest 50"),
                (COIL, "coil left at 10 most ^{} rest 50"), (COIL, "coil left at 10 most 300 rest ^{}"),
                (COIL, "coil left at 10 most 300 rest 50 hold ^{}"), (KICK, "kick left left for ^{}")]
        for line, gap in gaps:
            for word in NO_NUMBERS:
                self.check_fault(4, swapped(line, gap.replace("{}", word)))


class Kind5(TableCase):
    def test_name_twice_in_its_sort(self):
        self.check_fault(5, swapped(SWITCH, "switch ^t1 at 20 close 4 open 5"))
        self.check_fault(5, swapped(SWITCH, "switch ^t8 at 20 close 4 open 5"))
        self.check_fault(5, swapped(LAMP, LAMP, "lamp ^left at 11"))
        self.check_fault(5, swapped(COIL, COIL, "coil ^left at 11 most 300 rest 50"))
        self.check_fault(5, swapped(DEVICE, "device ^trough by loop holds hole"))

    def test_place_does_not_rise(self):
        for place in (0, 19, 20):
            self.check_fault(5, swapped(SWITCH, SWITCH, f"switch z at ^{place} close 4 open 5"))
        for place in (0, 9, 10):
            self.check_fault(5, swapped(LAMP, LAMP, f"lamp z at ^{place}"))
            self.check_fault(5, swapped(COIL, COIL, f"coil z at ^{place} most 300 rest 50"))
        self.check_right(swapped(SWITCH, SWITCH, "switch z at 21 close 4 open 5"))
        self.check_right(swapped(LAMP, LAMP, "lamp z at 11"))
        self.check_right(swapped(COIL, COIL, "coil z at 11 most 300 rest 50"))

    def test_places_of_two_sorts_do_not_meet(self):
        self.check_right(swapped(LAMP, "lamp left at 0"))
        self.check_right(swapped(BARE_COIL, "coil trough at 0 most 300 rest 50"))

    def test_first_switch_of_a_kick_does_not_rise(self):
        lines = FULL[:-2] + ["kick right right for 30"]
        self.check_fault(5, text_of(lines + ["kick ^left left for 200"]))
        self.check_fault(5, text_of(lines + ["kick ^right left for 200"]))


class Kind6(TableCase):
    def test_name_that_does_not_stand_before(self):
        for word in ("unknown", "t9", "t", "night_9"):
            self.check_fault(6, swapped(DEVICE, f"device hole by ^{word} holds hole"))
            self.check_fault(6, swapped(DEVICE, f"device hole by loop holds ^{word}"))
            self.check_fault(6, swapped(DEVICE, f"device hole by loop holds hole ^{word} drain"))
            self.check_fault(6, swapped(KICK, f"kick ^{word} left for 200"))
            self.check_fault(6, swapped(KICK, f"kick left ^{word} for 200"))
            self.check_fault(6, swapped(KICK, f"kick left left for 200 till ^{word}"))

    def test_name_of_another_sort(self):
        # loop is a coil alone, hole a switch and a device, trough a coil and a device.
        self.check_fault(6, swapped(DEVICE, "device hole by ^hole holds hole"))
        self.check_fault(6, swapped(DEVICE, "device hole by loop holds ^loop"))
        self.check_fault(6, swapped(KICK, "kick ^trough left for 200"))
        self.check_fault(6, swapped(KICK, "kick left ^t1 for 200"))
        self.check_fault(6, swapped(KICK, "kick left left for 200 till ^loop"))

    def test_drain_straight_behind_holds(self):
        self.check_fault(6, swapped(DEVICE, "device hole by loop holds ^drain"))
        self.check_fault(6, swapped(DEVICE, "device hole by loop holds ^drain hole"))
        self.check_fault(6, swapped(DEVICE, "device hole by loop holds ^drain drain"))


class Kind7(TableCase):
    def test_coil_of_an_earlier_device(self):
        self.check_fault(7, swapped(DEVICE, "device hole by ^trough holds hole"))

    def test_switch_of_an_earlier_device(self):
        self.check_fault(7, swapped(DEVICE, "device hole by loop holds ^t1"))
        self.check_fault(7, swapped(DEVICE, "device hole by loop holds hole ^t8"))

    def test_switch_twice_in_one_device(self):
        self.check_fault(7, swapped(DEVICE, "device hole by loop holds hole ^hole"))
        self.check_fault(7, swapped(DEVICE, "device hole by loop holds hole left ^hole drain"))

    def test_first_switch_of_a_kick_stands_in_a_device(self):
        self.check_fault(7, swapped(KICK, "kick ^t1 left for 200"))
        self.check_fault(7, swapped(KICK, "kick ^hole left for 200"))

    def test_coil_of_a_kick_serves_already(self):
        self.check_fault(7, swapped(KICK, "kick left ^trough for 200"))
        self.check_fault(7, swapped(KICK, "kick left ^loop for 200"))
        self.check_fault(7, swapped(BARE_KICK, "kick right ^left for 30"))

    def test_time_above_its_coils_most(self):
        self.check_fault(7, swapped(BARE_KICK, "kick right right for ^31"))
        self.check_fault(7, swapped(BARE_KICK, "kick right right for ^255"))
        self.check_right(swapped(BARE_KICK, "kick right right for 30"))

    def test_second_switch_is_the_first(self):
        self.check_fault(7, swapped(KICK, "kick left left for 200 till ^left"))


class Kind8(TableCase):
    def test_one_ball_fewer(self):
        self.check_fault(8, swapped(DRAIN, "device trough by trough holds t1 t2 t3 t4 t5 t6 t7 drain") + "^")
        self.check_right(text_of(FULL))

    def test_just_enough_together(self):
        lines = FULL[1:18] + ["device d by trough holds t1 t2 drain", "device e by loop holds t3 drain"]
        self.check_right(text_of(["table x balls 3"] + lines))
        self.check_fault(8, text_of(["table x balls 4"] + lines) + "^")

    def test_only_drains_count(self):
        lines = FULL[1:18] + ["device d by trough holds t1 t2 drain", "device e by loop holds t3"]
        self.check_right(text_of(["table x balls 2"] + lines))
        self.check_fault(8, text_of(["table x balls 3"] + lines) + "^")

    def test_no_drain(self):
        self.check_fault(8, "table x balls 1\n^")
        self.check_fault(8, text_of(SMALLEST[:-1]) + "^")
        self.check_fault(8, text_of(SMALLEST[:-1] + ["device a by a holds a"]) + "^")


if __name__ == "__main__":
    unittest.main()
