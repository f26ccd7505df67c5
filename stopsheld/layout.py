"""How the lines of a text stand in blocks, and which reasons there are to refuse one.

Rows are pairs (number of the line, its shape), as a text is read; a line without a form has the shape None.
"""

from stopsheld.programs import sides

ENDS = ("jump", "branch", "return")
MOST_BLOCKS = 8


def kinds_of(rows):
    """Give the kind of the line of each row, an empty text for one without a form."""
    return ["" if shape is None else shape[0] for _, shape in rows]


def place_reason(kinds, at):
    """Give the reason for which a line that has a form cannot stand where it does, or None."""
    if kinds[at] == "block":
        behind = _marks(kinds[at + 1:])
        return None if behind and behind[0] in ENDS else "block without end"
    ahead = _marks(kinds[:at])
    if "block" not in ahead:
        return "outside a block"
    return None if ahead[-1] == "block" else "after the end"


def _marks(kinds):
    """Give those of the kinds that begin or end blocks."""
    return [kind for kind in kinds if kind == "block" or kind in ENDS]


def block_reasons(rows, at):
    """Give the reasons that the names of blocks give to refuse the line of a row that has its place."""
    shape = rows[at][1]
    found = []
    if shape[0] == "block":
        ahead = _block_names(rows[:at])
        if len(ahead) >= MOST_BLOCKS:
            found.append("too many blocks")
        if shape[1] in ahead:
            found.append("duplicate block")
    targets = [target for target, _ in sides(shape)]
    names = _block_names(rows)
    if any([target not in names for target in targets]):
        found.append("unknown block")
    if names[0] in targets:
        found.append("entry as target")
    return found


def _block_names(rows):
    """Give the names of the blocks that begin in the rows."""
    return [shape[1] for _, shape in rows if shape[0] == "block"]


def first_reason(order, found):
    """Give the first reason in an order that was found, or None."""
    for reason in order:
        if reason in found:
            return reason
    return None


def first_fault(rows, reasons):
    """Give (number of the line, reason) of the first row that has a reason, or None; reasons has one for each row."""
    for (number, _), reason in zip(rows, reasons):
        if reason is not None:
            return (number, reason)
    return None


def rows_by_block(rows):
    """Give the list of the rows of each block, from that of its block line to that of its end."""
    found = []
    for row in rows:
        if row[1][0] == "block":
            found.append([])
        found[-1].append(row)
    return found


def blocks_of(rows):
    """Give the blocks that the rows make: what the block line tells, the lines, and the end."""
    found = []
    for part in rows_by_block(rows):
        shapes = tuple([shape for _, shape in part])
        found.append(shapes[0][1:] + (shapes[1:-1], shapes[-1]))
    return tuple(found)
