"""Parts of a table that a number or a name chooses, told as lists of whole numbers."""

# What find can look through.
SWITCHES = 0
LAMPS = 1
COILS = 2
DEVICES = 3

# What places can tell, which numbers the sorts in another way.
ALL_SWITCHES = 0
TURNED_SWITCHES = 1
ALL_LAMPS = 2
ALL_COILS = 3
HELD_SWITCHES = 4
KICKING_SWITCHES = 5
HOLDING_COILS = 6


class NoSuchChoice(Exception):
    """A number that chooses nothing."""


class NoSuchName(Exception):
    """A name that no part of the chosen sort has."""


def parts_of(board, sort):
    """The parts of a sort by their names."""
    if sort == SWITCHES:
        return board.switches
    if sort == LAMPS:
        return board.lamps
    if sort == COILS:
        return board.coils
    if sort == DEVICES:
        return board.devices
    raise NoSuchChoice()


def tell_found(board, sort, name):
    """The place of the part that has the name; of a device, which has none, how many stand before it."""
    known = parts_of(board, sort)
    if name not in known:
        raise NoSuchName()
    if sort == DEVICES:
        return [list(known).index(name)]
    return [known[name].place]


def chosen_parts(board, what):
    """The parts that what chooses, by rising places: parts of a sort stand so in the text, and kicks so too."""
    if what == ALL_SWITCHES:
        return list(board.switches.values())
    if what == TURNED_SWITCHES:
        return [switch for switch in board.switches.values() if switch.turned]
    if what == ALL_LAMPS:
        return list(board.lamps.values())
    if what == ALL_COILS:
        return list(board.coils.values())
    if what == HELD_SWITCHES:
        # Not gone through by devices, whose switches need not rise.
        return [switch for switch in board.switches.values() if switch.name in board.held]
    if what == KICKING_SWITCHES:
        return [kick.switch for kick in board.kicks]
    if what == HOLDING_COILS:
        return [coil for coil in board.coils.values() if coil.hold > 0]
    raise NoSuchChoice()


def tell_places(board, what):
    return [part.place for part in chosen_parts(board, what)]
