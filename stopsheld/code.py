"""Code as tuples: its locations, and their order."""

from stopsheld.programs import sides

SCRATCH = "t"
REGISTERS = ("r0", "r1", "r2", "r3", "r4", "r5", "r6", "r7")
SLOTS = ("s0", "s1", "s2", "s3", "s4", "s5", "s6", "s7", "s8", "s9", "s10", "s11", "s12", "s13", "s14", "s15")
KINDS_IN_ORDER = "rst"


def is_location(text):
    """Tell whether a text is a location."""
    return text in REGISTERS or text in SLOTS or text == SCRATCH


def location_order(locations):
    """Give locations in order, each once."""
    return tuple(sorted(list({location: True for location in locations}), key=_rank))


def _rank(location):
    """Give what orders a location: registers, slots, the scratch; the first two by number, not as texts."""
    return (KINDS_IN_ORDER.index(location[0]), int(location[1:] or "0"))


def locations_in(code):
    """Give the locations that occur in code, and the scratch, in order."""
    inputs, blocks = code
    found = list(inputs) + [SCRATCH]
    for _, lines, end in blocks:
        for line in lines:
            found.extend(_in_line(line))
        found.extend(_in_end(end))
    return location_order(found)


def _in_line(line):
    """Give the locations that occur in a line."""
    kind = line[0]
    if kind == "op":
        return (line[1],) + line[3:]
    if kind == "move":
        return line[1:]
    return (line[1],)


def _in_end(end):
    """Give the list of the locations that occur in an end, its moves included."""
    found = [] if end[0] == "jump" else [end[1]]
    for _, moves in sides(end):
        for move in moves:
            found.extend(move)
    return found
