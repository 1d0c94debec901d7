"""Draws numbers and right texts, the same ones at every run."""

# Names like words of the lines, beginnings of one another, and of one to twelve bytes.
NAMES = ["a", "ab", "abc", "b", "z", "z_", "z9", "at", "by", "for", "till", "hold", "holds", "turned", "drain", "loop",
         "table", "switch", "lamp", "coil", "device", "kick", "most", "rest", "open", "close", "balls",
         "abcdefghijk", "abcdefghij_9", "abcdefghij_8"]
NAMES += [f"n{k}" for k in range(40)]


class Draw:
    """Numbers that follow from the first one alone."""

    def __init__(self, first):
        self.state = first

    def below(self, bound):
        self.state = (self.state * 6364136223846793005 + 1442695040888963407) % 2 ** 128
        return (self.state // 2 ** 33) % bound

    def between(self, least, most):
        return least + self.below(most - least + 1)

    def chance(self):
        return self.below(2) == 1

    def some(self, values, many):
        """So many of the values, in any order."""
        left = list(values)
        return [left.pop(self.below(len(left))) for k in range(many)]


def drawn_switches(draw):
    many = draw.between(1, draw.between(1, 64))
    names = draw.some([name for name in NAMES if name != "drain"], many)
    lines = []
    for name, place in zip(names, sorted(draw.some(range(64), many))):
        ending = " turned" if draw.chance() else ""
        lines.append(f"switch {name} at {place} close {draw.between(1, 31)} open {draw.between(1, 31)}{ending}")
    return names, lines


def drawn_lamps(draw):
    many = draw.below(draw.between(1, 65))
    names = draw.some([name for name in NAMES if name != "loop"], many)
    return [f"lamp {name} at {place}" for name, place in zip(names, sorted(draw.some(range(64), many)))]


def drawn_coils(draw):
    """What each coil can do at most, by the coils' names; and their lines."""
    many = draw.between(1, draw.between(1, 32))
    longest = {name: draw.between(1, 1023) for name in draw.some(NAMES, many)}
    lines = []
    for name, place in zip(longest, sorted(draw.some(range(32), many))):
        ending = f" hold {draw.between(1, 15)}" if draw.chance() else ""
        lines.append(f"coil {name} at {place} most {longest[name]} rest {draw.between(1, 4095)}{ending}")
    return longest, lines


def drawn_devices(draw, switches, coils):
    """How many balls the drains hold, the switches and coils that are left, and the lines."""
    switches, coils = list(switches), list(coils)
    lines = []
    drained = 0
    for name in draw.some(NAMES, draw.between(1, min(8, len(coils)))):
        if switches:
            held = draw.some(switches, draw.between(1, min(8, len(switches))))
            coil = coils.pop(draw.below(len(coils)))
            switches = [switch for switch in switches if switch not in held]
            # The first one is a drain, as there has to be one.
            drain = not lines or draw.chance()
            drained += len(held) if drain else 0
            lines.append(f"device {name} by {coil} holds " + " ".join(held) + (" drain" if drain else ""))
    return drained, switches, coils, lines


def drawn_kicks(draw, switches, free, coils, longest):
    lines = []
    many = draw.below(min(8, len(free), len(coils)) + 1)
    first = [switch for switch in free if switch in draw.some(free, many)][:many]
    for switch, coil in zip(first, draw.some(coils, len(first))):
        others = [other for other in switches if other != switch]
        ending = f" till {others[draw.below(len(others))]}" if others and draw.chance() else ""
        lines.append(f"kick {switch} {coil} for {draw.between(1, min(255, longest[coil]))}{ending}")
    return lines


def drawn_text(draw):
    """A right text. The switches' names are kept in the order of their places, so that those of kicks rise."""
    switches, switch_lines = drawn_switches(draw)
    lamp_lines = drawn_lamps(draw)
    longest, coil_lines = drawn_coils(draw)
    drained, free, coils, device_lines = drawn_devices(draw, switches, longest)
    kick_lines = drawn_kicks(draw, switches, free, coils, longest)
    lines = [f"table {NAMES[draw.below(len(NAMES))]} balls {draw.between(1, min(8, drained))}"]
    lines += switch_lines + lamp_lines + coil_lines + device_lines + kick_lines
    return "".join([line + "\n" for line in lines])
