"""Sessions: code is run forth and back, and the variables of its program are told at each stop."""

from stopsheld.conditions import condition_text, word_holds
from stopsheld.errors import BadArgument
from stopsheld.machine import first, is_amid_edge
from stopsheld.papers import find_paper
from stopsheld.programs import definitions
from stopsheld.running import trace
from stopsheld.stops import point_of, told_at
from stopsheld.timelines import Timeline

MOST_TIMELINES = 6


class Session:
    """A program and its code, run on inputs along timelines, and the journal of what was done."""

    def __init__(self, program, code, inputs, given, many):
        self.program = program
        self.code = code
        self.inputs = inputs
        self.paper = find_paper(program, code)
        self.rows = [Timeline(code, many, given, (first(code, inputs), 0))]
        self.present = 0
        self.deeds = []

    def _row(self):
        """Give the present timeline."""
        return self.rows[self.present]

    def forth(self):
        """Make a tick, and tell whether it was made."""
        self.deeds.append("forth")
        return self._row().forth()

    def back(self):
        """Go to the position ahead, if there is one."""
        self.deeds.append("back")
        return self._row().back()

    def to(self, position):
        """Go to a position up to the length."""
        if not 0 <= position <= self.length():
            raise BadArgument("position")
        self.deeds.append(f"to {position}")
        self._row().go_to(position)
        return "moved"

    def until(self, condition):
        """Go forth until a condition holds."""
        self._refuse_unknown(condition)
        self.deeds.append(f"until {condition_text(condition)}")
        told = self._row().forth()
        while told == "moved" and not self._holds(condition):
            told = self._row().forth()
        return "holds" if told == "moved" else told

    def back_until(self, condition):
        """Go back until a condition holds."""
        self._refuse_unknown(condition)
        self.deeds.append(f"back until {condition_text(condition)}")
        told = self._row().back()
        while told == "moved" and not self._holds(condition):
            told = self._row().back()
        return "holds" if told == "moved" else told

    def _refuse_unknown(self, condition):
        """Refuse a condition about a variable or block that there is not."""
        known = definitions(self.program) if condition[0] == "word" else self._blocks()
        if condition[1] not in known:
            raise BadArgument("condition")

    def _blocks(self):
        """Give the list of the names of the blocks."""
        return [block[0] for block in self.program]

    def _holds(self, condition):
        """Tell whether a condition holds at the present moment."""
        place, point, told, _, _ = self.stop()
        if condition[0] == "word":
            return word_holds(dict(told), condition)
        _, block, number = condition
        return not is_amid_edge(place) and point == (self._blocks().index(block), number)

    def branch(self, given):
        """Begin a new timeline at the present position, with other words from there on."""
        if len(self.rows) >= MOST_TIMELINES:
            raise BadArgument("timelines")
        self.deeds.append(" ".join(["branch"] + [str(word) for word in given]))
        self.rows.append(self._row().branched(given))
        self.present = len(self.rows) - 1
        return "moved"

    def go(self, timeline):
        """Make a timeline the present one, where it was left."""
        if not 0 <= timeline < len(self.rows):
            raise BadArgument("timeline")
        self.deeds.append(f"go {timeline}")
        self.present = timeline
        return "moved"

    def position(self):
        """Give the number of ticks ahead of the present moment."""
        return self._row().at

    def length(self):
        """Give the number of ticks that the present timeline has."""
        return self._row().made

    def timeline(self):
        """Give the number of the present timeline."""
        return self.present

    def timelines(self):
        """Give how many timelines there are."""
        return len(self.rows)

    def snapshots(self):
        """Give the positions of the states that the present timeline keeps."""
        return tuple(sorted(list(self._row().kept)))

    def ticks(self):
        """Give how many ticks were made in all, new ones and again."""
        return sum([row.worked for row in self.rows])

    def stop(self):
        """Give (place, point, told variables with their words, output, number of words read)."""
        place, contents, output, reads = self.state()
        if place is None:
            return (None, None, (), output, reads)
        words = dict(contents)
        told = told_at(self.program, self.code, self.paper, place)
        rows = tuple([(variable, words[location]) for variable, location in told])
        return (place, point_of(self.code, place), rows, output, reads)

    def state(self):
        """Give the state of the machine."""
        return self._row().now[0]

    def journal(self):
        """Give the text of all deeds that were not refused."""
        return "".join([deed + "\n" for deed in self.deeds])

    def passed(self):
        """Give the list of the states of the program's run up to the present moment.

        Amid an edge the end counts as not made yet.
        """
        state, steps = self._row().now
        most = steps - 1 if is_amid_edge(state[0]) else steps
        return trace(self.program, self.inputs, self._row().given, most)
