"""Runs of programs, step by step."""

from stopsheld.errors import BadArgument
from stopsheld.programs import definitions, edges, side_taken
from stopsheld.store import Store, told_run


class ProgramRun(Store):
    """A run of a program at one of its states; each step changes it in place."""

    def __init__(self, program, state):
        point, values, output, reads = state
        Store.__init__(self, dict(values), list(output), reads)
        self.program = program
        self.point = point
        self.order = definitions(program)
        self.targets = {(block, side): (target, arguments) for block, side, target, arguments in edges(program)}

    def advance(self, given):
        """Make the next step, and tell whether it was made."""
        block, number = self.point
        instructions = self.program[block][2]
        if number == len(instructions):
            self._leave(block)
        elif self.do_line(instructions[number], given):
            self.point = (block, number + 1)
        else:
            return False
        self.steps += 1
        return True

    def _leave(self, block):
        """Make the step of the end of a block."""
        end = self.program[block][3]
        if end[0] == "return":
            self.returned = self.words[end[1]]
            self.point = None
            return
        target, arguments = self.targets[(block, side_taken(end, self.words))]
        # All arguments are read ahead of all parameters: one of these can be an argument itself.
        words = [self.words[variable] for variable in arguments]
        for parameter, word in zip(self.program[target][1], words):
            self.words[parameter] = word
        self.point = (target, 0)

    def state(self):
        """Give the state at which the run is."""
        values = tuple([(variable, self.words[variable]) for variable in self.order if variable in self.words])
        return (self.point, values, tuple(self.output), self.reads)


def first_state(program, inputs):
    """Give the state at the beginning."""
    return ((0, 0), tuple(zip(program[0][1], inputs)), (), 0)


def step(program, state, given):
    """Give the next state, None if the run waits for a word."""
    if state[0] is None:
        raise BadArgument("returned")
    going = ProgramRun(program, state)
    return going.state() if going.advance(given) else None


def run(program, inputs, given, most):
    """Give (status, value, output, steps, words read) of a run of at most so many steps."""
    return told_run(ProgramRun(program, first_state(program, inputs)), given, most)


def trace(program, inputs, given, most):
    """Give the list of the states of a run of at most so many steps."""
    going = ProgramRun(program, first_state(program, inputs))
    found = [going.state()]
    while len(found) <= most and going.point is not None and going.advance(given):
        found.append(going.state())
    return found
