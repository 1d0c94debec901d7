"""Parts of a table that a number or a name chooses, told as lists of whole numbers."""

SWITCHES = 0
LAMPS = 1
COILS = 2
DEVICES = 3


class NoSuchSort(Exception):
    """A number that chooses no sort of parts."""


class NoSuchName(Exception):
    """A name that no part of the chosen sort has."""


def parts_of(board, sort):
    """The parts of a sort by their names."""
    if sort == SWITCHES:
        return board.switches
    if sort == LAMPS:
        return board.lamps
    if sort == COILS:
        return board.coils
    if sort == DEVICES:
        return board.devices
    raise NoSuchSort()


def tell_found(board, sort, name):
    """The place of the part that has the name; of a device, which has none, how many stand before it."""
    known = parts_of(board, sort)
    if name not in known:
        raise NoSuchName()
    if sort == DEVICES:
        return [list(known).index(name)]
    return [known[name].place]
