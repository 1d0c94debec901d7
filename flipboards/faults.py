"""The first fault of a text: its kind and its place."""

NOT_ENDED = 1
WRONG_BYTE = 2
WRONG_WORD = 3
WRONG_FORM = 4
NOT_NEW = 5
NOT_THERE = 6
CLASH = 7
TOO_FEW_HELD = 8


class Fault(Exception):
    """Ends the reading of a text, since only the first fault is told."""

    def __init__(self, kind, place):
        self.kind = kind
        self.place = place
