"""A second way to run games, for comparison: each way of a call is run from its beginning, result by result."""

from fractions import Fraction


class Lacks(Exception):
    """A result is to be drawn that has not been told."""


class Machine:
    """A run of one procedure with the results that are told; `odds` is the product of their numbers."""

    def __init__(self, game, state, told):
        self.game = game
        self.told = list(told)
        self.odds = 1
        self.places = {("variable", row[0]): value for row, value in zip(game.variables, state[0])}
        self.rows = {("table", row[0]): dict(rows) for row, rows in zip(game.tables, state[1])}
        self.rows.update({("lots", row[0]): dict(rows) for row, rows in zip(game.lots, state[2])})
        self.sizes = {("variable", row[0]): row[1] for row in game.variables}
        self.sizes.update({("table", row[0]): row[1:] for row in game.tables})
        self.sizes.update({("lots", row[0]): row[1:] for row in game.lots})
        self.bad = state[3]

    def state(self):
        values = tuple(self.places["variable", row[0]] for row in self.game.variables)
        tables = tuple(tuple(sorted(self.rows["table", row[0]].items())) for row in self.game.tables)
        lots = tuple(tuple(sorted(self.rows["lots", row[0]].items())) for row in self.game.lots)
        return (values, tables, lots, self.bad)

    def drawn(self, many):
        self.odds *= many
        if not self.told:
            raise Lacks(many)
        return self.told.pop(0)

    def value(self, part):
        head = part[0]
        if head == "number":
            return part[1]
        if head in ("local", "variable"):
            return self.places[part]
        if head in ("has", "cell"):
            rows = self.rows["table", part[1]]
            key = self.value(part[2]) % self.sizes["table", part[1]][0]
            return int(key in rows) if head == "has" else rows.get(key, 0)
        left, right = self.value(part[1]), self.value(part[2])
        if head in ("/", "mod") and right == 0:
            return 0
        return {"+": lambda: (left + right) % 65536, "-": lambda: max(left - right, 0),
                "*": lambda: left * right % 65536, "/": lambda: left // right, "mod": lambda: left % right,
                "<": lambda: int(left < right), "=": lambda: int(left == right)}[head]()

    def run(self, block):
        for statement in block:
            getattr(self, "do_" + statement[0])(*statement[1:])

    def do_set(self, name, part):
        self.places["variable", name] = self.value(part) % self.sizes["variable", name]

    def do_let(self, name, part):
        self.places["local", name] = self.value(part)

    def do_draw(self, name, many):
        self.places["local", name] = self.drawn(many)

    def do_put(self, name, key, part):
        keys, values = self.sizes["table", name]
        self.rows["table", name][self.value(key) % keys] = self.value(part) % values

    def do_lot(self, local, name, part):
        keys, values = self.sizes["lots", name]
        key = self.value(part) % keys
        rows = self.rows["lots", name]
        if key not in rows:
            rows[key] = self.drawn(values)
        self.places["local", local] = rows[key]

    def do_if(self, test, first, second):
        self.run(first if self.value(test) else second)

    def do_bad(self):
        self.bad = True

    def do_after(self, block):
        if self.bad:
            self.run(block)


    def call(self, procedure, number):
        """Runs a procedure from its beginning to its answer."""
        _, size, answers, inner, block, result = self.game.proc(procedure)
        self.places.update({("local", name): 0 for name in inner})
        self.places["local", inner[0]] = number % size
        self.run(block)
        return self.value(result) % answers


class Context(Machine):
    """A run of one procedure of a context; a game stands beside it, with a state of its own."""

    def __init__(self, context, state, told, game, inner):
        super().__init__(context, state, told)
        self.inner_game = game
        self.inner_state = inner

    def do_ask(self, local, procedure, part):
        machine = Machine(self.inner_game, self.inner_state, ())
        machine.told = self.told
        self.places["local", local] = machine.call(procedure, self.value(part))
        self.odds *= machine.odds
        self.inner_state = machine.state()


def ways(game, state, procedure, number):
    """The ways of a call: triples of a state, an answer and a chance, one for each way."""
    found = followed(lambda told: Machine(game, state, told), procedure, number)
    return [(machine.state(), answer, share) for machine, answer, share in found]


def ways_around(context, game, states, procedure, number):
    """The same for a context beside a game; the states are a pair of both."""
    found = followed(lambda told: Context(context, states[0], told, game, states[1]), procedure, number)
    return [((machine.state(), machine.inner_state), answer, share) for machine, answer, share in found]


def followed(begin, procedure, number):
    """Machines behind each way of a call, with their answers and chances; `begin` makes one with results to be told."""
    found, open_ones = [], [()]
    while open_ones:
        told = open_ones.pop()
        machine = begin(told)
        try:
            answer = machine.call(procedure, number)
        except Lacks as lack:
            open_ones.extend([(*told, each) for each in reversed(range(lack.args[0]))])
            continue
        found.append((machine, answer, Fraction(1, machine.odds)))
    return found


def beginning(game):
    """The state at the beginning."""
    return (tuple(row[2] for row in game.variables), ((),) * len(game.tables), ((),) * len(game.lots), False)


def chance(game, player, state=None, known=None):
    """The chance that a player says yes from a state on; `known` keeps the ways of this game."""
    state = beginning(game) if state is None else state
    known = {} if known is None else known
    if player[0] == "say":
        return Fraction(int(player[1]))
    if player[0] == "toss":
        return sum([chance(game, part, state, known) for part in player[1]]) / Fraction(len(player[1]))
    parts, call = dict(player[3]), (state, player[1], player[2])
    if call not in known:
        known[call] = ways(game, *call)
    return sum([share * chance(game, parts[answer], end, known)
                for end, answer, share in known[call] if answer in parts], Fraction(0))


def all_players(game, calls):
    """All players without tosses, of at most so many calls, with a part for each answer."""
    found = [("say", False), ("say", True)]
    if calls == 0:
        return found
    after = all_players(game, calls - 1)
    for name, size, answers, *_ in game.procs:
        for number in range(size):
            for parts in choices(after, answers):
                found.append(("ask", name, number, tuple(enumerate(parts))))
    return found


def choices(players, many):
    """All tuples of so many players."""
    if many == 0:
        return [()]
    return [(*rest, player) for rest in choices(players, many - 1) for player in players]


def greatest_gain(game, other, calls):
    """The greatest gain, by trying all players."""
    ours, theirs = {}, {}
    return max([chance(game, player, None, ours) - chance(other, player, None, theirs)
                for player in all_players(game, calls)])


def told_value(part, told):
    """The value of an expression of a tactic that knows these numbers."""
    if part[0] == "number":
        return part[1]
    if len(part) == 1:
        return told[part[0]]
    left, right = told_value(part[1], told), told_value(part[2], told)
    return {"+": (left + right) % 65536, "-": max(left - right, 0), "*": left * right % 65536,
            "/": right and left // right, "mod": right and left % right, "<": int(left < right),
            "=": int(left == right)}[part[0]]


def tactic_chance(game, rules, calls, state=None, told=None, known=None):
    """The chance that a tactic says yes, following each way of each call by itself."""
    state = beginning(game) if state is None else state
    told = {"last": 0, "made": 0, "kept": 0} if told is None else told
    known = {} if known is None else known
    for test, deed, keep in rules:
        if told_value(test, told) == 0:
            continue
        if deed[0] == "say":
            return Fraction(int(told_value(deed[1], told) != 0))
        if told["made"] == calls:
            return Fraction(0)
        call = (state, deed[1], told_value(deed[2], told))
        kept = told_value(keep, told)
        if call not in known:
            known[call] = ways(game, *call)
        return sum([share * tactic_chance(game, rules, calls, end,
                                          {"last": answer, "made": told["made"] + 1, "kept": kept}, known)
                    for end, answer, share in known[call]], Fraction(0))
    return Fraction(0)
