"""The calls: each answers one list of whole numbers."""

from flipboards.choosing import NoSuchChoice, NoSuchName, tell_found, tell_places
from flipboards.faults import Fault
from flipboards.reading import read_board
from flipboards.squares import turned_square
from flipboards.telling import tell_coils, tell_devices, tell_kicks, tell_lamps, tell_switches, tell_table

MOST_BYTES = 16384
OUT_OF_BOUNDS = -1
TOO_LONG = -2
NOT_FOUND = -4
FAULTY = -6


def answer(text, tell):
    """0 and what tell says of the table; or -2; or -6."""
    if len(text) > MOST_BYTES:
        return [TOO_LONG]
    try:
        board = read_board(text)
    except Fault:
        return [FAULTY]
    return [0] + tell(board)


def judge(text):
    """0; or -2; or -6 and the kind and the place of the first fault."""
    if len(text) > MOST_BYTES:
        return [TOO_LONG]
    try:
        read_board(text)
    except Fault as fault:
        return [FAULTY, fault.kind, fault.place]
    return [0]


def table(text):
    """0, the number of balls and the bytes of the table's name; or -2; or -6."""
    return answer(text, tell_table)


def switches(text):
    """0, how many; of each its place, close, open, 1 if it's turned, else 0, its name; or -2; or -6."""
    return answer(text, tell_switches)


def lamps(text):
    """0, how many; of each its place, its name; or -2; or -6."""
    return answer(text, tell_lamps)


def coils(text):
    """0, how many; of each its place, most, rest, hold (0: none told), its name; or -2; or -6."""
    return answer(text, tell_coils)


def devices(text):
    """0, how many; of each its coil's place, 1 if it's a drain, else 0, its switches, its name; or -2; or -6.

    The switches are told as how many there are, then their places in the text's order.
    """
    return answer(text, tell_devices)


def kicks(text):
    """0, how many; of each the first switch's place, the coil's, T, the second switch's (64: none); or -2; or -6."""
    return answer(text, tell_kicks)


def find(sort, text, name):
    """0, the place of the switch (sort 0), lamp (1) or coil (2) of that name, or the number of the device (3).

    Or -2; or -6; or -1 if sort is above 3; or -4 if none of that sort has that name.
    """
    try:
        return answer(text, lambda board: tell_found(board, sort, tuple(name)))
    except NoSuchChoice:
        return [OUT_OF_BOUNDS]
    except NoSuchName:
        return [NOT_FOUND]


def places(what, text):
    """0, then rising places; or -2; or -6; or -1 if what is above 6.

    what chooses the places: 0 of the switches; 1 of turned ones; 2 of the lamps; 3 of the coils; 4 of switches that
    stand in devices; 5 of first switches of kicks; 6 of coils with a hold.
    """
    try:
        return answer(text, lambda board: tell_places(board, what))
    except NoSuchChoice:
        return [OUT_OF_BOUNDS]


def turn(a):
    """0, the number whose bit 8 r + c is a's bit 8 c + r (r, c from 0 to 7)."""
    return [0, turned_square(a)]
