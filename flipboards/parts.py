"""What a text tells: a table and its parts. A name is a tuple of bytes."""


class Switch:
    def __init__(self, name, place, to_close, to_open, turned):
        self.name = name
        self.place = place
        self.to_close = to_close
        self.to_open = to_open
        self.turned = turned


class Lamp:
    def __init__(self, name, place):
        self.name = name
        self.place = place


class Coil:
    """hold is 0 where the line tells none."""

    def __init__(self, name, place, most, rest, hold):
        self.name = name
        self.place = place
        self.most = most
        self.rest = rest
        self.hold = hold


class Device:
    def __init__(self, name, coil, switches, drain):
        self.name = name
        self.coil = coil
        self.switches = switches
        self.drain = drain


class Kick:
    """till is None where the line tells no second switch."""

    def __init__(self, switch, coil, ticks, till):
        self.switch = switch
        self.coil = coil
        self.ticks = ticks
        self.till = till


class Board:
    """A table as far as it has been read; the dicts of parts go by the parts' names."""

    def __init__(self, name, balls):
        self.name = name
        self.balls = balls
        self.switches = {}
        self.lamps = {}
        self.coils = {}
        self.devices = {}
        self.kicks = []
        # Names of switches that stand in devices, and of coils that serve a device or a kick.
        self.held = {}
        self.serving = {}
