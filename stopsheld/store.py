"""What a run has at a moment, of a program or of code, and what a line does to it."""

from stopsheld.words import operate


class Store:
    """Words under their names, what was printed, and how many words were read; lines change it in place."""

    def __init__(self, words, output, reads):
        self.words = words
        self.output = output
        self.reads = reads
        self.steps = 0
        self.returned = None

    def do_line(self, line, given):
        """Do a line, and tell whether it was done: a read that finds no word in the row is not."""
        kind = line[0]
        if kind == "const":
            self.words[line[1]] = line[2]
        elif kind == "op":
            self.words[line[1]] = operate(line[2], self.words[line[3]], self.words[line[4]])
        elif kind == "print":
            self.output.append(self.words[line[1]])
        elif kind == "move":
            self.words[line[1]] = self.words[line[2]]
        elif self.reads < len(given):
            self.words[line[1]] = given[self.reads]
            self.reads += 1
        else:
            return False
        return True


def told_run(going, given, most):
    """Give (status, value, output, steps, words read) of at most so many steps of a run that is at its beginning."""
    status = "running"
    while status == "running" and going.steps < most:
        if not going.advance(given):
            status = "waiting"
        elif going.returned is not None:
            status = "returned"
    return (status, going.returned, tuple(going.output), going.steps, tuple(given[:going.reads]))
