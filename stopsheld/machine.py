"""The machine: runs of code, tick by tick."""

from stopsheld.code import locations_in
from stopsheld.errors import BadArgument
from stopsheld.programs import side_taken, sides
from stopsheld.store import Store, told_run


class MachineRun(Store):
    """A run of code at one of the states of the machine; each tick changes it in place."""

    def __init__(self, code, state):
        place, contents, output, reads = state
        Store.__init__(self, dict(contents), list(output), reads)
        self.code = code
        self.place = place

    def advance(self, given):
        """Make the next tick, and tell whether it was made."""
        counts = is_step(self.code, self.place)
        block, number = self.place[:2]
        lines = self.code[1][block][1]
        if is_amid_edge(self.place):
            self._move()
        elif number == len(lines):
            self._leave()
        elif self.do_line(lines[number], given):
            self.place = (block, number + 1)
        else:
            return False
        if counts:
            self.steps += 1
        return True

    def _end(self):
        """Give the end of the block in which the place is."""
        return self.code[1][self.place[0]][2]

    def _leave(self):
        """Make the tick of the end of the block."""
        end = self._end()
        if end[0] == "return":
            self.returned = self.words[end[1]]
            self.place = None
        else:
            self._stand_ahead(side_taken(end, self.words), 0)

    def _move(self):
        """Make the tick of a move of an edge."""
        _, _, side, number = self.place
        _, moves = sides(self._end())[side]
        destination, source = moves[number]
        self.words[destination] = self.words[source]
        self._stand_ahead(side, number + 1)

    def _stand_ahead(self, side, number):
        """Go ahead of a move of an edge of the block, or into the target if it has no such move."""
        target, moves = sides(self._end())[side]
        if number < len(moves):
            self.place = self.place[:2] + (side, number)
        else:
            names = [name for name, _, _ in self.code[1]]
            self.place = (names.index(target), 0)

    def state(self):
        """Give the state at which the run is."""
        # The locations are in order, as they came: all that occur in the code are there from the beginning.
        return (self.place, tuple([(name, self.words[name]) for name in self.words]), tuple(self.output), self.reads)


def is_amid_edge(place):
    """Tell whether a place, None behind a return, is amid an edge."""
    return place is not None and len(place) == 4


def first(code, inputs):
    """Give the state at the beginning."""
    words = {location: 0 for location in locations_in(code)}
    for location, word in zip(code[0], inputs):
        words[location] = word
    return ((0, 0), tuple([(location, words[location]) for location in words]), (), 0)


def tick(code, state, given):
    """Give the next state, None if the machine waits for a word."""
    if state[0] is None:
        raise BadArgument("returned")
    going = MachineRun(code, state)
    return going.state() if going.advance(given) else None


def is_step(code, place):
    """Tell whether the tick at a place is a step."""
    if is_amid_edge(place):
        return False
    block, number = place
    lines = code[1][block][1]
    return number == len(lines) or lines[number][0] != "move"


def run_code(code, inputs, given, most):
    """Give (status, value, output, steps, words read) of a run of at most so many steps."""
    return told_run(MachineRun(code, first(code, inputs)), given, most)
