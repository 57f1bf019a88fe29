"""States, and what comes of calls (points 8 to 10)."""

from math import lcm

from tellsnone.errors import BadCall
from tellsnone.ratio import Ratio
from tellsnone.ways import Call, Sizes, Way

MOST_KEPT = 100000


def first_state(game):
    """The state at the beginning."""
    values = tuple([row[2] for row in game.variables])
    return (values, ((),) * len(game.tables), ((),) * len(game.lots), False)


def by_name(rows, parts):
    """The parts of a state by the names of the variables, tables or lots that they belong to."""
    return {row[0]: part for row, part in zip(rows, parts)}


def in_order(rows, parts):
    """The parts that belong to variables, tables or lots, as a state has them."""
    return tuple([parts[row[0]] for row in rows])


def shares(pairs):
    """Each end once, with its chance; the pairs are an end and the odds of a way to it."""
    common = 1
    for pair in pairs:
        common = lcm(common, pair[1])
    found = {}
    for end, odds in pairs:
        found[end] = found.get(end, 0) + common // odds
    return [(end, Ratio(found[end], common)) for end in found]


class Memory:
    """Lists that were found earlier. Searches need the same ones again and again, but not all can be kept."""

    def __init__(self):
        self.known = {}
        self.room = MOST_KEPT

    def keep(self, key, found):
        """Keeps a list if there is room for it."""
        if len(found) <= self.room:
            self.known[key] = found
            self.room -= len(found)


class Runner:
    """Runs the procedures of a game."""

    def __init__(self, game):
        self.game = game
        self.sizes = Sizes(game)
        self.kept_ends = Memory()
        self.kept_answers = Memory()

    def ends(self, state, procedure, number):
        """What can come of a call: triples of a state, an answer and a chance."""
        proc = self.proc_of(procedure, number)
        key = (state, procedure, number % proc[1])
        found = self.kept_ends.known.get(key)
        if found is None:
            pairs = [((self.state_of(way), answer), way.odds) for way, answer in self.ways(state, proc, number)]
            found = [(end[0], end[1], share) for end, share in shares(pairs)]
            self.kept_ends.keep(key, found)
        return list(found)

    def answers(self, state, procedure, number):
        """The answers that can come of a call: pairs of an answer and a chance. States are not worked out for it."""
        proc = self.proc_of(procedure, number)
        key = (state, procedure, number % proc[1])
        found = self.kept_answers.known.get(key)
        if found is None:
            found = shares([(answer, way.odds) for way, answer in self.ways(state, proc, number)])
            self.kept_answers.keep(key, found)
        return list(found)

    def proc_of(self, procedure, number):
        """The procedure of a call."""
        proc = self.game.proc(procedure)
        if proc is None or number < 0:
            raise BadCall(f"no call of {procedure} with {number}")
        return proc

    def ways(self, state, proc, number):
        """The ways of a call, each with its answer."""
        call = Call(self.sizes)
        ways = call.run(proc[4], [self.first_way(state, proc, number)])
        return [(way, call.value(proc[5], way) % proc[2]) for way in ways]

    def first_way(self, state, proc, number):
        """The way in front of the first statement of a procedure."""
        values, tables, lots, bad = state
        game = self.game
        inner = {local: 0 for local in proc[3]}
        inner[proc[3][0]] = number % proc[1]
        outer = by_name(game.variables, values)
        return Way(inner, outer, by_name(game.tables, tables), by_name(game.lots, lots), bad, 1)

    def state_of(self, way):
        """The state in which a way leaves the game."""
        game = self.game
        values = in_order(game.variables, way.outer)
        return (values, in_order(game.tables, way.tables), in_order(game.lots, way.lots), way.bad)
