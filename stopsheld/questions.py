"""Questions about the program's run up to the present moment of a session."""

from stopsheld.conditions import word_holds
from stopsheld.errors import BadArgument
from stopsheld.programs import defined_by, definitions, side_taken, sides, uses_of


def steps_made(session):
    """Give how many steps the program has made."""
    return len(session.passed()) - 1


def defined(session, variable):
    """Give the number of the last step that defined a variable, 0 for an input, None if it was not defined."""
    _refuse_unknown(session, variable)
    slices = _slices(session)
    if variable not in slices:
        return None
    # All that the last step used was there ahead of it, so it has the greatest number of its slice.
    return max(slices[variable], default=0)


def since(session, condition):
    """Give the number of steps behind which a word condition has held up to now, None if it does not hold now."""
    _refuse_unknown(session, condition[1])
    found = None
    for number, (_, values, _, _) in enumerate(session.passed()):
        if not word_holds(dict(values), condition):
            found = None
        elif found is None:
            found = number
    return found


def slice_of(session, variable):
    """Give the numbers of the steps on which the present value of a variable depends."""
    _refuse_unknown(session, variable)
    return _slices(session).get(variable, ())


def words_of(session, variable):
    """Give the numbers of the words on which the present value of a variable depends."""
    found = slice_of(session, variable)
    states = session.passed()
    # reads of the states tell how many words were read ahead of a step, which is the number of the next word.
    return tuple([states[step - 1][3] for step in found if states[step - 1][3] < states[step][3]])


def _refuse_unknown(session, variable):
    """Refuse a variable that the program does not have."""
    if variable not in definitions(session.program):
        raise BadArgument("variable")


def _slices(session):
    """Give for each variable that was defined the ascending numbers of the steps on which its value depends."""
    states = session.passed()
    found = {variable: () for variable in session.program[0][1]}
    for number, state in enumerate(states[:-1], start=1):
        # The arguments of an end are all read ahead of its parameters.
        made = []
        for variable, used in _definitions_of_step(session.program, state, states[number]):
            steps = [step for name in used for step in found[name]] + [number]
            made.append((variable, tuple(sorted(set(steps)))))
        found.update(dict(made))
    return found


def _definitions_of_step(program, state, behind):
    """Give the list of (variable, what it was made of) of the step between two states."""
    (block, number), values, _, _ = state
    _, _, instructions, end = program[block]
    if number < len(instructions):
        variable = defined_by(instructions[number])
        return [] if variable is None else [(variable, uses_of(instructions[number]))]
    if behind[0] is None:
        return []
    _, arguments = sides(end)[side_taken(end, dict(values))]
    parameters = program[behind[0][0]][1]
    return [(parameter, (argument,)) for parameter, argument in zip(parameters, arguments)]
