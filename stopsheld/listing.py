"""Listings: texts of code that tell at each line which variables are where, written and read."""

from stopsheld.code import is_location
from stopsheld.codetext import code_text, parse_code
from stopsheld.errors import BadCode
from stopsheld.papers import find_paper
from stopsheld.pieces import lines_of
from stopsheld.stops import told_at
from stopsheld.words import is_name

LONGEST_TEXT = 6000
MARK = ";"


def listing(program, code):
    """Give the listing of a program and code."""
    paper = find_paper(program, code)
    found = []
    for line, place in zip(code_text(code).splitlines(), _places_of_lines(code)):
        told = () if place is None else told_at(program, code, paper, place)
        mark = "" if place is None else f" {MARK}"
        found.append(line + mark + _pairs_text(told) + "\n")
    return "".join(found)


def _places_of_lines(code):
    """Give for each line of the text of code the place ahead of it, None for one that is in no block."""
    found = [None]
    for block, (_, lines, _) in enumerate(code[1]):
        found.append(None)
        found.extend([(block, number) for number in range(len(lines) + 1)])
    return found


def _pairs_text(pairs):
    """Give the text that tells pairs of variables and locations."""
    return "".join([f" {variable}@{location}" for variable, location in pairs])


def read_listing(text):
    """Give the code of a listing, and the pairs that each line and end of its blocks tells."""
    if len(text) > LONGEST_TEXT:
        raise BadCode(0, "text too long")
    parts = [line.partition(MARK) for line in text.split("\n")]
    lines = "\n".join([ahead for ahead, _, _ in parts])
    code = parse_code(lines)
    inside = [number for number, pieces in lines_of(lines) if pieces[0] not in ("inputs", "block")]
    told = []
    for number, (_, mark, behind) in enumerate(parts, start=1):
        pairs = _pairs_of(behind)
        if (number in inside) != (mark == MARK) or pairs is None:
            raise BadCode(number, "not a listing")
        if number in inside:
            told.append(pairs)
    return (code, tuple(told))


def _pairs_of(text):
    """Give the pairs that a text behind a mark tells, or None if it is not made so."""
    pairs = []
    for piece in text.split(" ")[1:]:
        variable, _, location = piece.partition("@")
        if not is_name(variable) or not is_location(location):
            return None
        pairs.append((variable, location))
    is_twice = len(set([variable for variable, _ in pairs])) < len(pairs)
    return None if is_twice or text != _pairs_text(pairs) else tuple(pairs)
