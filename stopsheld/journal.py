"""Journals: sessions led again by the lines of their deeds."""

from stopsheld.conditions import condition_of
from stopsheld.errors import BadArgument, BadJournal
from stopsheld.pieces import number_of
from stopsheld.sessions import Session


def replay(program, code, inputs, given, many, text):
    """Give the session of a journal, or of a beginning of one."""
    session = Session(program, code, inputs, given, many)
    # What stands behind the last newline is no whole line.
    for number, line in enumerate(text.split("\n")[:-1], start=1):
        if not _is_done(session, line.split(" ")):
            raise BadJournal(number)
    return session


def _is_done(session, pieces):
    """Do the deed of a line, and tell whether its pieces tell one that is not refused."""
    try:
        return _is_led(session, pieces)
    except BadArgument:
        return False


def _is_led(session, pieces):
    """Do the deed of a line, and tell whether its pieces tell one."""
    if pieces[0] in ("to", "branch", "go"):
        return _is_led_by_numbers(session, pieces[0], [number_of(piece) for piece in pieces[1:]])
    if "until" in pieces:
        return _is_led_by_condition(session, pieces)
    if pieces == ["forth"]:
        session.forth()
    elif pieces == ["back"]:
        session.back()
    else:
        return False
    return True


def _is_led_by_numbers(session, kind, numbers):
    """Do a deed of a kind that numbers follow, None for what is no number, and tell whether it is one."""
    if None in numbers or (kind != "branch" and len(numbers) != 1):
        return False
    if kind == "branch":
        session.branch(tuple(numbers))
    elif kind == "to":
        session.to(numbers[0])
    else:
        session.go(numbers[0])
    return True


def _is_led_by_condition(session, pieces):
    """Do a deed that a condition follows, and tell whether the pieces tell one."""
    at = pieces.index("until")
    condition = condition_of(pieces[at + 1:])
    if condition is None or pieces[:at] not in ([], ["back"]):
        return False
    if at == 0:
        session.until(condition)
    else:
        session.back_until(condition)
    return True
