"""Sessions by the words of the document, and rows of deeds by chance with which sessions are led."""

from stopsheld.errors import BadArgument
from stopsheld.machine import first, is_step, tick
from stopsheld.papers import find_paper
from stopsheld.programs import defined_by, definitions, uses_of
from stopsheld.questions import defined, since, slice_of, steps_made, words_of
from stopsheld.running import trace
from tests.samples import goes_to, rows_of
from tests.test_stops import facts_by_words, point_by_words, told_by_words

METHODS = ("position", "length", "timeline", "timelines", "snapshots", "ticks", "stop", "state", "journal")


class Line:
    """A timeline by the words of z1 and z4: all states of its ticks are there."""

    def __init__(self, given, states):
        self.given = given
        self.states = states
        self.at = len(states) - 1
        self.interval = 1
        self.others = []


class Model:
    """A session by the words of z1 to z6."""

    def __init__(self, program, code, inputs, given, many):
        self.program, self.code, self.inputs, self.many = program, code, inputs, many
        self.paper = find_paper(program, code)
        self.lines = [Line(given, [first(code, inputs)])]
        self.now = 0
        self.made = 0
        self.deeds = []

    def line(self):
        return self.lines[self.now]

    def visit(self, position):
        """Go to a position of the present timeline and count the ticks of z4."""
        line = self.line()
        starts = [0] + line.others + [line.at]
        self.made += position - max([at for at in starts if at <= position])
        line.at = position

    def on(self):
        line = self.line()
        if line.at < len(line.states) - 1:
            self.visit(line.at + 1)
            return "moved"
        if line.states[-1][0] is None:
            return "returned"
        if len(line.states) == 151:
            return "limit"
        state = tick(self.code, line.states[-1], line.given)
        if state is None:
            return "waiting"
        line.states.append(state)
        line.at += 1
        self.made += 1
        if line.at % line.interval == 0 and len(line.others) == self.many:
            line.interval *= 2
            line.others = [at for at in line.others if at % line.interval == 0]
        if line.at % line.interval == 0:
            line.others.append(line.at)
        return "moved"

    def off(self):
        if self.line().at == 0:
            return "beginning"
        self.visit(self.line().at - 1)
        return "moved"

    def forth(self):
        self.deeds.append("forth")
        return self.on()

    def back(self):
        self.deeds.append("back")
        return self.off()

    def to(self, position):
        if position not in range(len(self.line().states)):
            raise BadArgument("position")
        self.deeds.append(f"to {position}")
        self.visit(position)
        return "moved"

    def until(self, condition):
        return self.row_of(condition, self.on, "until")

    def back_until(self, condition):
        return self.row_of(condition, self.off, "back until")

    def row_of(self, condition, go, name):
        known = definitions(self.program) if condition[0] == "word" else [block[0] for block in self.program]
        if condition[1] not in known:
            raise BadArgument("condition")
        self.deeds.append(" ".join([name] + [str(part) for part in condition[1:]]))
        while True:
            told = go()
            if told != "moved":
                return told
            if self.holds(condition):
                return "holds"

    def holds(self, condition):
        place, point, told, _, _ = self.stop()
        if condition[0] == "point":
            return place is not None and len(place) == 2 and (self.program[point[0]][0], point[1]) == condition[1:]
        _, name, sign, word = condition
        return any([{"=": value == word, "<": value < word, ">": value > word}[sign]
                    for variable, value in told if variable == name])

    def branch(self, given):
        if len(self.lines) == 6:
            raise BadArgument("timelines")
        self.deeds.append(" ".join(["branch"] + [str(word) for word in given]))
        old = self.line()
        states = old.states[:old.at + 1]
        line = Line(old.given[:states[-1][3]] + given, states)
        line.interval = old.interval
        line.others = [at for at in old.others if at <= old.at]
        self.lines.append(line)
        self.now = len(self.lines) - 1
        return "moved"

    def go(self, timeline):
        if timeline not in range(len(self.lines)):
            raise BadArgument("timeline")
        self.deeds.append(f"go {timeline}")
        self.now = timeline
        return "moved"

    def position(self):
        return self.line().at

    def length(self):
        return len(self.line().states) - 1

    def timeline(self):
        return self.now

    def timelines(self):
        return len(self.lines)

    def snapshots(self):
        return tuple([0] + self.line().others)

    def ticks(self):
        return self.made

    def state(self):
        return self.line().states[self.line().at]

    def stop(self):
        place, contents, output, reads = self.state()
        if place is None:
            return None, None, (), output, reads
        pairs = told_by_words(self.program, facts_by_words(self.program, self.code, self.paper, place))
        told = tuple([(name, dict(contents)[location]) for name, location in pairs])
        return place, point_by_words(self.code, place), told, output, reads

    def journal(self):
        return "".join([deed + "\n" for deed in self.deeds])

    def steps(self):
        """Give the number of the program's steps up to the present moment by the words of u1."""
        line = self.line()
        made = sum([is_step(self.code, state[0]) for state in line.states[:line.at]])
        return made - (line.states[line.at][0] is not None and len(line.states[line.at][0]) == 4)

    def states(self):
        """Give the states of the program's run up to the present moment."""
        return trace(self.program, self.inputs, self.line().given, self.steps())

    def past(self):
        """Give the program's run up to the present moment."""
        return Past(self.program, self.states())


class Past:
    """The states of a program's run, about which questions are answered by the words of u1 to u3."""

    def __init__(self, program, states):
        self.program = program
        self.states = states
        self.steps = len(states) - 1
        # For each step {variable: what it was made of}; no step has the number 0.
        self.made = [{}] + [self.made_at(number) for number in range(1, len(states))]

    def made_at(self, number):
        (block, at), values, _, _ = self.states[number - 1]
        row = rows_of(self.program, block)[at]
        if row[0] in ("jump", "branch"):
            side = int(row[0] == "branch" and dict(values)[row[1]] == 0)
            arguments = row[2] if row[0] == "jump" else row[3 + 2 * side]
            parameters = self.program[goes_to(self.program, block)[side]][1]
            return {parameter: (argument,) for parameter, argument in zip(parameters, arguments)}
        return {} if row[0] == "return" or not defined_by(row) else {defined_by(row): uses_of(row)}

    def defined(self, name, number=None):
        """Give the last of so many steps that defined a variable."""
        for at in range(self.steps if number is None else number, 0, -1):
            if name in self.made[at]:
                return at
        return 0 if name in self.program[0][1] else None

    def slice(self, name):
        """Give the slice of a variable, by going back from each (variable, step count) that it depends on."""
        found, left = set(), [(name, self.steps)]
        for one, number in left:
            at = self.defined(one, number)
            if at:
                found.add(at)
                rest = [(used, at - 1) for used in self.made[at][one]]
                left.extend([pair for pair in rest if pair not in left])
        return tuple(sorted(found))

    def words(self, name):
        """Give the numbers of the words in the slice of a variable."""
        reads = [at for at in range(1, self.steps + 1) if self.states[at][3] > self.states[at - 1][3]]
        return tuple([reads.index(at) for at in self.slice(name) if at in reads])

    def since(self, condition):
        """Give the first step count from which on a condition holds."""
        _, name, sign, word = condition
        good = []
        for _, values, _, _ in self.states:
            value = dict(values).get(name)
            good.append(value is not None and {"=": value == word, "<": value < word, ">": value > word}[sign])
        return next((at for at in range(len(good)) if all(good[at:])), None)


def told_by(session):
    """Give all that a session, or a model of one, tells of itself."""
    return [getattr(session, method)() for method in METHODS]


def random_questions(chance, program):
    """Give a word condition by chance for each variable of a program."""
    return [("word", name, chance.choice("=<>"), chance.choice((-1, 0, 1, 5))) for name in definitions(program)]


def answers(session, conditions):
    """Give the answers of a session to questions about all variables."""
    found = [steps_made(session)]
    for condition in conditions:
        name = condition[1]
        found.append((defined(session, name), since(session, condition), slice_of(session, name),
                      words_of(session, name)))
    return found


def answers_by_words(model, conditions):
    """Give the answers by the words of u1 to u3 to the same questions."""
    past = model.past()
    found = [model.steps()]
    for condition in conditions:
        name = condition[1]
        found.append((past.defined(name), past.since(condition), past.slice(name), past.words(name)))
    return found


def random_condition(chance, program):
    """Give a condition by chance, sometimes about a variable or a block that there is not."""
    if chance.random() < 0.6:
        name = chance.choice(definitions(program) + ("none",)) if chance.random() < 0.3 else chance.choice(
            definitions(program) or ("none",))
        return "word", name, chance.choice("=<>"), chance.choice((0, 0, 1, 2, -1, 5, -32768, 32767))
    block = chance.choice([block[0] for block in program] + (["none"] if chance.random() < 0.2 else []))
    return "point", block, chance.choice((0, 0, 1, 2, 3, 7, 32767))


def random_deed(chance, program, length):
    """Give (name of a method, arguments) of a deed by chance, sometimes of one that is refused."""
    kind = chance.choice(("forth", "forth", "forth", "back", "back", "to", "to", "until", "until", "back_until",
                          "branch", "branch", "go"))
    if kind in ("forth", "back"):
        return kind, ()
    if kind == "to":
        return kind, (chance.randint(0, length + 1) if chance.random() < 0.9 else chance.choice((-1, 151, 9999)),)
    if kind == "branch":
        return kind, (tuple([chance.randint(-3, 3) for _ in range(chance.choice((0, 1, 3, 20)))]),)
    if kind == "go":
        return kind, (chance.choice((0, 0, 1, 2, 3, 5, 6, -1)),)
    return kind, (random_condition(chance, program),)


def do(session, deed):
    """Do a deed, and give what it told, or the reason for which it was refused."""
    name, arguments = deed
    try:
        return getattr(session, name)(*arguments)
    except BadArgument as error:
        return "refused", error.reason
