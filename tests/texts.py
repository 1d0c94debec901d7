"""What the tests share: texts to begin with, and how an answer is held against DOC.md."""

import unittest

from again import told_again
from flipboards.boards import coils, devices, find, judge, kicks, lamps, places, switches, table


def find_switch(text):
    return find(0, text, [97])


def find_no_name(text):
    return find(3, text, [])


def find_no_sort(text):
    return find(4, text, [97])


def places_of_switches(text):
    return places(0, text)


def places_of_held(text):
    return places(4, text)


def places_of_nothing(text):
    return places(7, text)


# The calls that tell nothing of a fault but that there is one; those with more than a text are given it here.
TELLING = (table, switches, lamps, coils, devices, kicks, find_switch, find_no_name, find_no_sort,
           places_of_switches, places_of_held, places_of_nothing)
CALLS = (judge,) + TELLING

SMALLEST = [
    "table a balls 1",
    "switch a at 0 close 1 open 1",
    "coil a at 0 most 1 rest 1",
    "device a by a holds a drain",
]

# Every sort of line, each with and without its optional ending.
FULL = [
    "table night_9 balls 8",
    "switch t1 at 1 close 4 open 5",
    "switch t2 at 2 close 4 open 5",
    "switch t3 at 3 close 4 open 5",
    "switch t4 at 4 close 4 open 5",
    "switch t5 at 5 close 4 open 5",
    "switch t6 at 6 close 4 open 5",
    "switch t7 at 7 close 4 open 5",
    "switch t8 at 8 close 4 open 5",
    "switch hole at 20 close 4 open 5 turned",
    "switch left at 30 close 4 open 5",
    "switch right at 40 close 4 open 5 turned",
    "lamp left at 10",
    "lamp drain at 20",
    "coil trough at 5 most 300 rest 50",
    "coil left at 10 most 300 rest 50 hold 3",
    "coil right at 15 most 30 rest 50",
    "coil loop at 20 most 300 rest 50",
    "device trough by trough holds t1 t2 t3 t4 t5 t6 t7 t8 drain",
    "device hole by loop holds hole",
    "kick left left for 200 till right",
    "kick right right for 30",
]

MARK = "^"


def text_of(lines):
    return "".join([line + "\n" for line in lines])


def swapped(old, *new):
    """FULL with the line old replaced by the lines new."""
    assert FULL.count(old) == 1, old
    at = FULL.index(old)
    return text_of(FULL[:at] + list(new) + FULL[at + 1:])


# A text of each kind of fault, in the order of the kinds.
FAULTY = [
    text_of(FULL)[:-1],
    swapped("lamp left at 10", "lamp  left at 10"),
    text_of(FULL) + "\n",
    swapped("switch right at 40 close 4 open 5 turned", "switch right at 64 close 4 open 5 turned"),
    swapped("switch right at 40 close 4 open 5 turned", "switch right at 30 close 4 open 5 turned"),
    swapped("device hole by loop holds hole", "device hole by hole holds hole"),
    swapped("device hole by loop holds hole", "device hole by trough holds hole"),
    swapped("device hole by loop holds hole").replace(" t8 drain", " drain"),
]


def bytes_of(text):
    return list(text.encode("latin-1"))


def largest():
    """As many lines of every sort as there can be, with the longest names and numbers."""
    lines = ["table twelve_bytes balls 8"]
    lines += [f"switch switch_no_{at:02} at {at} close 31 open 31 turned" for at in range(64)]
    lines += [f"lamp lamp_numb_{at:02} at {at}" for at in range(64)]
    lines += [f"coil coil_numb_{at:02} at {at} most 1023 rest 4095 hold 15" for at in range(32)]
    for k in range(8):
        # Seven each, so that eight switches are left for the kicks.
        held = " ".join([f"switch_no_{at:02}" for at in range(7 * k, 7 * k + 7)])
        lines.append(f"device device_no_{k:02} by coil_numb_{k:02} holds {held} drain")
    for k in range(8):
        lines.append(f"kick switch_no_{56 + k} coil_numb_{8 + k:02} for 255 till switch_no_{k:02}")
    return text_of(lines)


def named(name):
    """A name as all calls but table tell it."""
    return [len(name)] + bytes_of(name)


def lines_of(text, sort):
    """The words of a right text's lines of one sort."""
    lines = [line.split(" ") for line in text.split("\n")]
    return [words for words in lines if words[0] == sort]


def right_table(text):
    words = lines_of(text, "table")[0]
    return [0, int(words[3])] + bytes_of(words[1])


def right_switches(text):
    lines = lines_of(text, "switch")
    told = [0, len(lines)]
    for words in lines:
        told += [int(words[3]), int(words[5]), int(words[7]), int(len(words) == 9)] + named(words[1])
    return told


def right_lamps(text):
    lines = lines_of(text, "lamp")
    told = [0, len(lines)]
    for words in lines:
        told += [int(words[3])] + named(words[1])
    return told


def right_coils(text):
    lines = lines_of(text, "coil")
    told = [0, len(lines)]
    for words in lines:
        hold = int(words[9]) if len(words) == 10 else 0
        told += [int(words[3]), int(words[5]), int(words[7]), hold] + named(words[1])
    return told


def places_by_name(text, sort):
    return {words[1]: int(words[3]) for words in lines_of(text, sort)}


def right_devices(text):
    switch_places = places_by_name(text, "switch")
    coil_places = places_by_name(text, "coil")
    lines = lines_of(text, "device")
    told = [0, len(lines)]
    for words in lines:
        # No switch is called drain, so the word can stand at the end alone.
        held = [switch_places[word] for word in words[5:] if word != "drain"]
        told += [coil_places[words[3]], int("drain" in words[5:]), len(held)] + held + named(words[1])
    return told


def right_kicks(text):
    switch_places = places_by_name(text, "switch")
    coil_places = places_by_name(text, "coil")
    lines = lines_of(text, "kick")
    told = [0, len(lines)]
    for words in lines:
        till = switch_places[words[6]] if len(words) == 7 else 64
        told += [switch_places[words[1]], coil_places[words[2]], int(words[4]), till]
    return told


def right_finds(text):
    """Of each sort a dict from the names that are found to what is found."""
    devices_by_name = {words[1]: number for number, words in enumerate(lines_of(text, "device"))}
    return [places_by_name(text, sort) for sort in ("switch", "lamp", "coil")] + [devices_by_name]


def right_places(text):
    """What places has to answer, what by what."""
    by_name = places_by_name(text, "switch")
    switch_lines = lines_of(text, "switch")
    coil_lines = lines_of(text, "coil")
    held = [word for words in lines_of(text, "device") for word in words[5:] if word != "drain"]
    told = [
        [int(words[3]) for words in switch_lines],
        [int(words[3]) for words in switch_lines if words[-1] == "turned"],
        [int(words[3]) for words in lines_of(text, "lamp")],
        [int(words[3]) for words in coil_lines],
        [by_name[word] for word in held],
        [by_name[words[1]] for words in lines_of(text, "kick")],
        [int(words[3]) for words in coil_lines if "hold" in words[4:]],
    ]
    return [[0] + sorted(of_what) for of_what in told]


def edge_names(text):
    """The first and the last name of each sort, and the table's."""
    names = []
    for sort in ("table", "switch", "lamp", "coil", "device"):
        lines = lines_of(text, sort)
        names += [words[1] for words in lines[:1] + lines[-1:]]
    return sorted(set(names))


class Untouched(list):
    """A list that can only be read."""

    def refuse(self, *args, **named):
        raise AssertionError("what was handed in is changed")

    __setitem__ = __delitem__ = __iadd__ = __imul__ = refuse
    append = clear = extend = insert = pop = remove = reverse = sort = refuse


class TableCase(unittest.TestCase):
    def check_right(self, text):
        """text is a table's; its lines tell what the calls have to answer."""
        self.assertEqual(judge(bytes_of(text)), [0], text)
        self.assertEqual(table(bytes_of(text)), right_table(text), text)
        self.assertEqual(switches(bytes_of(text)), right_switches(text), text)
        self.assertEqual(lamps(bytes_of(text)), right_lamps(text), text)
        self.assertEqual(coils(bytes_of(text)), right_coils(text), text)
        self.assertEqual(devices(bytes_of(text)), right_devices(text), text)
        self.assertEqual(kicks(bytes_of(text)), right_kicks(text), text)
        self.assertEqual([places(what, bytes_of(text)) for what in range(7)], right_places(text), text)
        self.check_finds(text, edge_names(text))
        self.assertEqual(told_again(bytes_of(text)), text)

    def check_finds(self, text, names):
        """Each of the names is found in each sort that has it, and in no other one."""
        for sort, found in enumerate(right_finds(text)):
            for name in names:
                told = [0, found[name]] if name in found else [-4]
                self.assertEqual(find(sort, bytes_of(text), bytes_of(name)), told, (sort, name))

    def check_fault(self, kind, text):
        """text has the fault, told at the place of the one MARK, which isn't part of it."""
        self.assertEqual(text.count(MARK), 1, text)
        place = text.index(MARK)
        self.check_fault_at(kind, place, bytes_of(text.replace(MARK, "")))

    def check_fault_at(self, kind, place, text):
        # A text may be long, so a failure shows what stands about the place alone.
        about = bytes(text[max(place - 100, 0):place + 100])
        self.assertEqual(judge(text), [-6, kind, place], about)
        for call in TELLING:
            self.assertEqual(call(text), [-6], (call.__name__, about))
