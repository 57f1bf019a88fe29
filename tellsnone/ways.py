"""The ways of a call: what comes of each result that is drawn (points 8 to 10)."""

from tellsnone.errors import TooLarge
from tellsnone.values import operator_value

MOST_WAYS = 5000


class Way:
    """A way as far as it has come; it is gone once in `odds` times.

    Each part has its values by their names: `inner` the locals, `outer` the variables, `tables` and `lots` tuples
    of rows, as states have them.
    """

    def __init__(self, inner, outer, tables, lots, bad, odds):
        self.inner = inner
        self.outer = outer
        self.tables = tables
        self.lots = lots
        self.bad = bad
        self.odds = odds

    def branch(self, many):
        """A copy that goes on by itself, as one of `many`."""
        odds = self.odds * many
        return Way(dict(self.inner), dict(self.outer), dict(self.tables), dict(self.lots), self.bad, odds)


def value_at(rows, key):
    """The value of the row for a key, or None."""
    for row in rows:
        if row[0] == key:
            return row[1]
    return None


def with_row(rows, key, number):
    """Rows with this row, and no other one for its key."""
    return tuple(sorted([row for row in rows if row[0] != key] + [(key, number)]))


class Sizes:
    """The sizes of the variables of a game, and the numbers of keys and of values of its tables and lots."""

    def __init__(self, game):
        self.outer = {row[0]: row[1] for row in game.variables}
        self.tables = {row[0]: row[1:] for row in game.tables}
        self.lots = {row[0]: row[1:] for row in game.lots}


class Call:
    """One call of a procedure; `many` is the number of its ways so far."""

    def __init__(self, sizes):
        self.sizes = sizes
        self.many = 1

    def add_ways(self, many):
        """Counts new ways. Each way goes on to an answer, so there are never fewer of them later."""
        self.many += many
        if self.many > MOST_WAYS:
            raise TooLarge("ways")

    def run(self, block, ways):
        """The ways behind the statements of a block."""
        for statement in block:
            if ways:
                ways = self.step(statement, ways)
        return ways

    def step(self, statement, ways):
        """The ways behind one statement."""
        word = statement[0]
        if word == "draw":
            return self.draw(statement, ways)
        if word == "lot":
            return self.lot(statement, ways)
        if word == "if":
            return self.choose(statement, ways)
        if word == "after":
            early = [way for way in ways if not way.bad]
            return early + self.run(statement[1], [way for way in ways if way.bad])
        for way in ways:
            self.change(statement, way)
        return ways

    def change(self, statement, way):
        """Takes a statement that draws nothing and has no statements in it."""
        word = statement[0]
        if word == "let":
            way.inner[statement[1]] = self.value(statement[2], way)
        elif word == "set":
            way.outer[statement[1]] = self.value(statement[2], way) % self.sizes.outer[statement[1]]
        elif word == "put":
            keys, most = self.sizes.tables[statement[1]]
            key = self.value(statement[2], way) % keys
            number = self.value(statement[3], way) % most
            way.tables[statement[1]] = with_row(way.tables[statement[1]], key, number)
        elif word == "bad":
            way.bad = True

    def draw(self, statement, ways):
        """The ways behind a `draw`."""
        _, local, many = statement
        self.add_ways((many - 1) * len(ways))
        found = []
        for way in ways:
            for number in range(many):
                new = way.branch(many)
                new.inner[local] = number
                found.append(new)
        return found

    def lot(self, statement, ways):
        """The ways behind a `lot`."""
        _, local, name, part = statement
        keys, many = self.sizes.lots[name]
        found = []
        for way in ways:
            key = self.value(part, way) % keys
            rows = way.lots[name]
            known = value_at(rows, key)
            if known is not None:
                way.inner[local] = known
                found.append(way)
                continue
            self.add_ways(many - 1)
            for number in range(many):
                new = way.branch(many)
                new.inner[local] = number
                new.lots[name] = with_row(rows, key, number)
                found.append(new)
        return found

    def choose(self, statement, ways):
        """The ways behind an `if`."""
        _, test, first, second = statement
        chosen = []
        left = []
        for way in ways:
            if self.value(test, way):
                chosen.append(way)
            else:
                left.append(way)
        return self.run(first, chosen) + self.run(second, left)

    def value(self, expression, way):
        """The value of an expression."""
        head = expression[0]
        if head == "local":
            return way.inner[expression[1]]
        if head == "number":
            return expression[1]
        if head == "variable":
            return way.outer[expression[1]]
        if head in ("has", "cell"):
            key = self.value(expression[2], way) % self.sizes.tables[expression[1]][0]
            known = value_at(way.tables[expression[1]], key)
            if head == "has":
                return 0 if known is None else 1
            return 0 if known is None else known
        return operator_value(head, self.value(expression[1], way), self.value(expression[2], way))
