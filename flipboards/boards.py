"""The calls: each is given a text and answers one list of whole numbers."""

from flipboards.faults import Fault
from flipboards.reading import read_board

MOST_BYTES = 16384
TOO_LONG = -2
FAULTY = -6


def judge(text):
    """0; or -2; or -6 and the kind and the place of the first fault."""
    if len(text) > MOST_BYTES:
        return [TOO_LONG]
    try:
        read_board(text)
    except Fault as fault:
        return [FAULTY, fault.kind, fault.place]
    return [0]


def table(text):
    """0, the number of balls and the bytes of the table's name; or -2; or -6."""
    if len(text) > MOST_BYTES:
        return [TOO_LONG]
    try:
        board = read_board(text)
    except Fault:
        return [FAULTY]
    return [0, board.balls] + list(board.name)
