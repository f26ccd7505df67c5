"""Which variables of the program are told at a place of its code, and where they are."""

from stopsheld.code import location_order
from stopsheld.facts import facts_ahead
from stopsheld.programs import definitions


def point_of(code, place):
    """Give the point of a place."""
    block, number = place[:2]
    ahead = code[1][block][1][:number]
    return (block, len([line for line in ahead if line[0] != "move"]))


def facts_at(program, code, paper, place):
    """Give the facts at a place, in order."""
    facts = facts_ahead(program, code, paper, place)
    found = []
    for location in location_order(list(facts.rows)):
        found.extend([(location, variable) for variable in definitions(program) if facts.has(location, variable)])
    return tuple(found)


def told_at(program, code, paper, place):
    """Give (variable, location) of each variable that is told at a place, in definition order."""
    facts = facts_ahead(program, code, paper, place)
    found = []
    for variable in definitions(program):
        places = facts.places_of(variable)
        if places:
            found.append((variable, places[0]))
    return tuple(found)
