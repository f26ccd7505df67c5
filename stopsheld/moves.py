"""Parallel moves, and the rows of single moves that do what they do."""

from stopsheld.code import SCRATCH


def order_moves(moves):
    """Give the ordering of a parallel move."""
    left = {destination: source for destination, source in moves if destination != source}
    places = {source: source for source in left.values()}
    ready = [destination for destination in left if destination not in places]
    found = []
    while left:
        if not ready:
            # Only rings are left: one of their locations is freed.
            freed = list(left)[0]
            found.append((SCRATCH, freed))
            places[freed] = SCRATCH
            ready.append(freed)
        destination = ready.pop(0)
        source = left.pop(destination)
        place = places[source]
        found.append((destination, place))
        places[source] = destination
        if place == source and source in left:
            ready.append(source)
    return tuple(found)


def do_moves(moves, contents):
    """Give the contents behind an ordered row of moves."""
    found = dict(contents)
    for destination, source in moves:
        found[destination] = found[source]
    return found
