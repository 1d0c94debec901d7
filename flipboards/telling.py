"""What stands in a table, told as lists of whole numbers, number by number."""

# One above the highest place of a switch.
NO_SWITCH = 64


def tell_name(name):
    return [len(name)] + list(name)


def tell_choice(chosen):
    # An answer holds whole numbers alone, never True or False.
    return 1 if chosen else 0


def tell_table(board):
    """The balls, then the name to the end: its count is told of all other names, not of this one."""
    return [board.balls] + list(board.name)


def tell_switches(board):
    told = [len(board.switches)]
    for switch in board.switches.values():
        told.extend([switch.place, switch.to_close, switch.to_open, tell_choice(switch.turned)])
        told.extend(tell_name(switch.name))
    return told


def tell_lamps(board):
    told = [len(board.lamps)]
    for lamp in board.lamps.values():
        told.append(lamp.place)
        told.extend(tell_name(lamp.name))
    return told


def tell_coils(board):
    told = [len(board.coils)]
    for coil in board.coils.values():
        told.extend([coil.place, coil.most, coil.rest, coil.hold])
        told.extend(tell_name(coil.name))
    return told


def tell_devices(board):
    told = [len(board.devices)]
    for device in board.devices.values():
        told.extend([device.coil.place, tell_choice(device.drain), len(device.switches)])
        told.extend([switch.place for switch in device.switches])
        told.extend(tell_name(device.name))
    return told


def tell_till(kick):
    return NO_SWITCH if kick.till is None else kick.till.place


def tell_kicks(board):
    told = [len(board.kicks)]
    for kick in board.kicks:
        told.extend([kick.switch.place, kick.coil.place, kick.ticks, tell_till(kick)])
    return told
