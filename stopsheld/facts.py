"""Facts, that locations have the values of variables, and how they are followed through code."""

from stopsheld.code import location_order
from stopsheld.programs import defined_by, sides


class Facts:
    """The variables whose values each location has, as they came; what is followed changes it in place."""

    def __init__(self, pairs):
        self.rows = {}
        for location, variable in pairs:
            self.rows.setdefault(location, []).append(variable)

    def has(self, location, variable):
        """Tell whether there is this fact."""
        return variable in self.rows.get(location, ())

    def places_of(self, variable):
        """Give the locations that have a fact about a variable, in order."""
        return location_order([location for location in self.rows if variable in self.rows[location]])

    def pairs(self):
        """Give all facts, in the order of locations, then of the variables as they came."""
        found = []
        for location in location_order(list(self.rows)):
            found.extend([(location, variable) for variable in self.rows[location]])
        return tuple(found)

    def follow_move(self, move):
        """Follow a move."""
        destination, source = move
        self.rows[destination] = list(self.rows.get(source, ()))

    def follow_line(self, line, variable):
        """Follow a line, of which the instruction defines this variable, or none."""
        if line[0] == "move":
            self.follow_move(line[1:])
        elif variable is not None:
            self.rows = {location: _without(self.rows[location], (variable,)) for location in self.rows}
            self.rows[line[1]] = [variable]

    def follow_entry(self, parameters, arguments):
        """Follow what comes behind the moves of an edge: all at once, parameters get the values of arguments."""
        rows = {}
        for location in self.rows:
            ahead = self.rows[location]
            came = [parameter for parameter, argument in zip(parameters, arguments) if argument in ahead]
            rows[location] = _without(ahead, parameters) + came
        self.rows = rows


def _without(variables, left_out):
    """Give a list of the variables that are not left out."""
    return [variable for variable in variables if variable not in left_out]


def with_instructions(program, code, block):
    """Give the list of (line, its instruction, the variable that this one defines) of a block.

    Program and code go together; a move has neither instruction nor variable.
    """
    left = list(program[block][2])
    found = []
    for line in code[1][block][1]:
        if line[0] == "move":
            found.append((line, None, None))
        else:
            instruction = left.pop(0)
            found.append((line, instruction, defined_by(instruction)))
    return found


def facts_ahead(program, code, paper, place):
    """Give the facts at a place of code; amid an edge the number can also be that behind its last move."""
    block, number = place[:2]
    found = Facts(paper[block])
    for line, _, variable in with_instructions(program, code, block)[:number]:
        found.follow_line(line, variable)
    if len(place) == 4:
        _, moves = sides(code[1][block][2])[place[2]]
        for move in moves[:place[3]]:
            found.follow_move(move)
    return found
