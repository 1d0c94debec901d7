"""Tells a right text again, from nothing but what the calls answer to it."""

from flipboards.boards import coils, devices, kicks, lamps, switches, table


class Told:
    """An answer, taken number by number from its front."""

    def __init__(self, answer):
        self.numbers = list(answer)
        assert self.take() == 0, answer

    def take(self):
        return self.numbers.pop(0)

    def take_many(self, many):
        return [self.take() for k in range(many)]

    def take_name(self):
        return bytes(self.take_many(self.take())).decode("ascii")

    def finish(self):
        assert self.numbers == [], self.numbers


def table_again(text):
    told = Told(table(text))
    balls = told.take()
    return f"table {bytes(told.numbers).decode('ascii')} balls {balls}"


def switches_again(text):
    """The lines of the switches, by their places."""
    told = Told(switches(text))
    lines = {}
    for k in range(told.take()):
        place, close, opening, turned = told.take_many(4)
        ending = ("", " turned")[turned]
        lines[place] = f"switch {told.take_name()} at {place} close {close} open {opening}{ending}"
    told.finish()
    return lines


def lamps_again(text):
    told = Told(lamps(text))
    lines = []
    for k in range(told.take()):
        place = told.take()
        lines.append(f"lamp {told.take_name()} at {place}")
    told.finish()
    return lines


def coils_again(text):
    """The lines of the coils, by their places."""
    told = Told(coils(text))
    lines = {}
    for k in range(told.take()):
        place, most, rest, hold = told.take_many(4)
        ending = f" hold {hold}" if hold else ""
        lines[place] = f"coil {told.take_name()} at {place} most {most} rest {rest}{ending}"
    told.finish()
    return lines


def devices_again(text, switch_names, coil_names):
    told = Told(devices(text))
    lines = []
    for k in range(told.take()):
        coil, drain = told.take_many(2)
        held = " ".join([switch_names[place] for place in told.take_many(told.take())])
        lines.append(f"device {told.take_name()} by {coil_names[coil]} holds {held}" + ("", " drain")[drain])
    told.finish()
    return lines


def kicks_again(text, switch_names, coil_names):
    told = Told(kicks(text))
    lines = []
    for k in range(told.take()):
        switch, coil, ticks, till = told.take_many(4)
        ending = "" if till == 64 else f" till {switch_names[till]}"
        lines.append(f"kick {switch_names[switch]} {coil_names[coil]} for {ticks}{ending}")
    told.finish()
    return lines


def told_again(text):
    """A right text, made anew of nothing but what the calls answer to it."""
    switch_lines = switches_again(text)
    coil_lines = coils_again(text)
    switch_names = {place: line.split(" ")[1] for place, line in switch_lines.items()}
    coil_names = {place: line.split(" ")[1] for place, line in coil_lines.items()}
    lines = [table_again(text)] + list(switch_lines.values()) + lamps_again(text) + list(coil_lines.values())
    lines += devices_again(text, switch_names, coil_names) + kicks_again(text, switch_names, coil_names)
    return "".join([line + "\n" for line in lines])
