"""Reads a text line by line into a table, up to its first fault."""

from flipboards.faults import CLASH, Fault, NOT_NEW, NOT_THERE, TOO_FEW_HELD, WRONG_FORM, WRONG_WORD
from flipboards.parts import Board, Coil, Device, Kick, Lamp, Switch
from flipboards.words import read_line, spelled

SORTS = ("switch", "lamp", "coil", "device", "kick")
MOST_BALLS = 8
MOST_SWITCH_PLACE = 63
MOST_LAMP_PLACE = 63
MOST_COIL_PLACE = 31
MOST_TO_CLOSE = 31
MOST_TO_OPEN = 31
MOST_COIL_MOST = 1023
MOST_COIL_REST = 4095
MOST_COIL_HOLD = 15
MOST_KICK_TICKS = 255
MOST_DEVICES = 8
MOST_KICKS = 8
MOST_HELD = 8
NO_PLACE = -1


def take_new_name(line, known):
    name = line.take_name()
    if name in known:
        raise Fault(NOT_NEW, line.at)
    return name


def take_new_name_but(line, known, forbidden):
    # A forbidden name never gets into known, so it can't be told as one that is there already.
    name = take_new_name(line, known)
    if name == spelled(forbidden):
        raise Fault(WRONG_FORM, line.at)
    return name


def take_known(line, known):
    """The part that a name which has to stand before belongs to."""
    name = line.take_name()
    if name not in known:
        raise Fault(NOT_THERE, line.at)
    return known[name]


def take_place(line, most, known):
    line.take_keyword("at")
    place = line.take_number(0, most)
    # Places rise, so the highest one is that of the line before.
    if place <= max([part.place for part in known.values()], default=NO_PLACE):
        raise Fault(NOT_NEW, line.at)
    return place


def take_named_number(line, keyword, most):
    line.take_keyword(keyword)
    return line.take_number(1, most)


def take_serving_coil(board, line):
    """A coil for a device or a kick, which no other one may have from now on."""
    coil = take_known(line, board.coils)
    if coil.name in board.serving:
        raise Fault(CLASH, line.at)
    board.serving[coil.name] = True
    return coil


def take_held_switch(board, line):
    switch = take_known(line, board.switches)
    if switch.name in board.held:
        raise Fault(CLASH, line.at)
    board.held[switch.name] = True
    return switch


def take_held_switches(board, line):
    # The first is taken unseen: a drain there is a name that doesn't stand before.
    switches = [take_held_switch(board, line)]
    while len(switches) < MOST_HELD and line.has_more() and not line.comes("drain"):
        switches.append(take_held_switch(board, line))
    return switches


def take_kick_switch(board, line):
    switch = take_known(line, board.switches)
    if switch.place <= max([kick.switch.place for kick in board.kicks], default=NO_PLACE):
        raise Fault(NOT_NEW, line.at)
    if switch.name in board.held:
        raise Fault(CLASH, line.at)
    return switch


def take_ticks(line, coil):
    ticks = take_named_number(line, "for", MOST_KICK_TICKS)
    if ticks > coil.most:
        raise Fault(CLASH, line.at)
    return ticks


def take_till(board, line, switch):
    if not line.take_ending("till"):
        return None
    till = take_known(line, board.switches)
    if till.name == switch.name:
        raise Fault(CLASH, line.at)
    return till


def read_table_line(line):
    line.take_keyword("table")
    name = line.take_name()
    balls = take_named_number(line, "balls", MOST_BALLS)
    line.finish()
    return Board(name, balls)


def read_switch(board, line):
    name = take_new_name_but(line, board.switches, "drain")
    place = take_place(line, MOST_SWITCH_PLACE, board.switches)
    to_close = take_named_number(line, "close", MOST_TO_CLOSE)
    to_open = take_named_number(line, "open", MOST_TO_OPEN)
    turned = line.take_ending("turned")
    board.switches[name] = Switch(name, place, to_close, to_open, turned)


def read_lamp(board, line):
    name = take_new_name_but(line, board.lamps, "loop")
    place = take_place(line, MOST_LAMP_PLACE, board.lamps)
    board.lamps[name] = Lamp(name, place)


def read_coil(board, line):
    name = take_new_name(line, board.coils)
    place = take_place(line, MOST_COIL_PLACE, board.coils)
    most = take_named_number(line, "most", MOST_COIL_MOST)
    rest = take_named_number(line, "rest", MOST_COIL_REST)
    hold = 0
    if line.take_ending("hold"):
        hold = line.take_number(1, MOST_COIL_HOLD)
    board.coils[name] = Coil(name, place, most, rest, hold)


def read_device(board, line):
    if len(board.devices) == MOST_DEVICES:
        raise Fault(WRONG_WORD, line.at)
    name = take_new_name(line, board.devices)
    line.take_keyword("by")
    coil = take_serving_coil(board, line)
    line.take_keyword("holds")
    switches = take_held_switches(board, line)
    drain = line.take_ending("drain")
    board.devices[name] = Device(name, coil, switches, drain)


def read_kick(board, line):
    if len(board.kicks) == MOST_KICKS:
        raise Fault(WRONG_WORD, line.at)
    switch = take_kick_switch(board, line)
    coil = take_serving_coil(board, line)
    ticks = take_ticks(line, coil)
    till = take_till(board, line, switch)
    board.kicks.append(Kick(switch, coil, ticks, till))


def take_sort(line, sort):
    """The number of the line's sort, which may not come before the sort reached so far."""
    word = line.take()
    for number in range(sort, len(SORTS)):
        if word == spelled(SORTS[number]):
            return number
    raise Fault(WRONG_WORD, line.at)


def read_part(board, line, sort):
    """Reads a line behind the first one and tells its sort."""
    number = take_sort(line, sort)
    keyword = SORTS[number]
    if keyword == "switch":
        read_switch(board, line)
    elif keyword == "lamp":
        read_lamp(board, line)
    elif keyword == "coil":
        read_coil(board, line)
    elif keyword == "device":
        read_device(board, line)
    else:
        read_kick(board, line)
    line.finish()
    return number


def check_drains(board, end):
    held = sum([len(device.switches) for device in board.devices.values() if device.drain])
    if held < board.balls:
        raise Fault(TOO_FEW_HELD, end)


def read_board(text):
    """The table that a text tells; raises Fault with the first fault where it tells none."""
    line = read_line(text, 0)
    board = read_table_line(line)
    sort = 0
    while line.end + 1 < len(text):
        line = read_line(text, line.end + 1)
        sort = read_part(board, line, sort)
    check_drains(board, len(text))
    return board
