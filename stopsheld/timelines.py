"""Timelines: the ticks that a session has made with one row of words, and how it goes among them."""

from stopsheld.machine import MachineRun

MOST_TICKS = 150


class Timeline:
    """A row of words, the ticks made with it, and the present moment, that one among them where it was left.

    A moment is (state of the machine, steps that led there).
    """

    def __init__(self, code, many, given, moment):
        self.code = code
        self.many = many
        self.given = given
        self.now = moment
        self.at = 0
        self.made = 0
        self.interval = 1
        self.kept = {0: moment}
        # All ticks that it took, those too that were made again.
        self.worked = 0

    def branched(self, words):
        """Give a new timeline that has the ticks up to the present moment, and then other words."""
        _, _, _, reads = self.now[0]
        found = Timeline(self.code, self.many, self.given[:reads] + words, self.kept[0])
        found.now = self.now
        found.at = self.at
        found.made = self.at
        found.interval = self.interval
        found.kept = {position: self.kept[position] for position in self.kept if position <= self.at}
        return found

    def forth(self):
        """Go a tick on: a recorded one, or a new one if there can be one."""
        if self.at < self.made:
            self.go_to(self.at + 1)
            return "moved"
        if self.now[0][0] is None:
            return "returned"
        if self.made >= MOST_TICKS:
            return "limit"
        return "moved" if self._has_new_tick() else "waiting"

    def back(self):
        """Go a tick back, if there is one."""
        if self.at == 0:
            return "beginning"
        self.go_to(self.at - 1)
        return "moved"

    def go_to(self, position):
        """Go to a position up to the number of ticks made."""
        start = max([place for place in self.kept if place <= position])
        moment = self.kept[start]
        if start < self.at <= position:
            start = self.at
            moment = self.now
        state, steps = moment
        going = MachineRun(self.code, state)
        for _ in range(position - start):
            going.advance(self.given)
        self.worked += position - start
        self.now = (going.state(), steps + going.steps)
        self.at = position

    def _has_new_tick(self):
        """Make a new tick, and tell whether it was made."""
        state, steps = self.now
        going = MachineRun(self.code, state)
        if not going.advance(self.given):
            return False
        self.worked += 1
        self.made += 1
        self.at = self.made
        self.now = (going.state(), steps + going.steps)
        if self.at % self.interval == 0:
            self._keep()
        return True

    def _keep(self):
        """Keep the present moment, at a multiple of the interval, as a snapshot, unless there are too many of them."""
        # The one at 0 is kept beside the many others.
        if len(self.kept) > self.many:
            self.interval *= 2
            self.kept = {place: self.kept[place] for place in self.kept if place % self.interval == 0}
        if self.at % self.interval == 0:
            self.kept[self.at] = self.now
