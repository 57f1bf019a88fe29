"""Games, and their texts (points 3 to 7)."""

from tellsnone.expressions import expression_words
from tellsnone.statements import StatementReader, block_words
from tellsnone.words import GREATEST_NUMBER, Words, is_name

MOST_OF_A_KIND = 6
MOST_LOCALS = 6
GREATEST_COUNT = 64


class Game:
    """A game, or a context: its variables, tables, lots and procedures, as in point 7."""

    def __init__(self, variables, tables, lots, procs):
        self.variables = variables
        self.tables = tables
        self.lots = lots
        self.procs = procs

    def __eq__(self, other):
        return (isinstance(other, Game) and self.variables == other.variables
                and self.tables == other.tables and self.lots == other.lots
                and self.procs == other.procs)

    def proc(self, name):
        """The procedure with a name, or None."""
        for proc in self.procs:
            if proc[0] == name:
                return proc
        return None


def read_game(text, asked=()):
    """The game that a text writes, or the context, which may ask the procedures `asked`."""
    words = Words(text)
    variables = read_variables(words)
    tables = read_maps(words, "table")
    lots = read_maps(words, "lots")
    names = {
        "variable": first_parts(variables),
        "table": first_parts(tables),
        "lots": first_parts(lots),
        "asked": [name for name in asked if is_name(name)],
    }
    procs = read_procs(words, names)
    words.finish()
    return Game(variables, tables, lots, procs)


def first_parts(rows):
    """The names of variables, tables, lots or procedures."""
    return [row[0] for row in rows]


def another(words, kind, found):
    """Takes the first word of a line if it is one more line of this kind."""
    if words.ahead() != kind or len(found) == MOST_OF_A_KIND:
        return False
    words.take()
    return True


def read_variables(words):
    """Takes the lines of variables."""
    found = []
    while another(words, "var", found):
        name = words.name(first_parts(found))
        size = words.number(1, GREATEST_NUMBER)
        found.append((name, size, words.number(0, size - 1)))
    return tuple(found)


def read_maps(words, kind):
    """Takes the lines of tables or of lots, which have the same parts."""
    found = []
    while another(words, kind, found):
        name = words.name(first_parts(found))
        keys = words.number(1, GREATEST_COUNT)
        found.append((name, keys, words.number(1, GREATEST_COUNT)))
    return tuple(found)


def read_procs(words, names):
    """Takes the procedures; `names` has the names of each kind, but for the locals."""
    found = []
    while another(words, "proc", found):
        found.append(read_proc(words, names, first_parts(found)))
    return tuple(found)


def read_proc(words, names, taken):
    """Takes a procedure behind its first word."""
    name = words.name(taken)
    size = words.number(1, GREATEST_COUNT)
    answers = words.number(1, GREATEST_COUNT)
    inner = read_locals(words, names["variable"])
    reader = StatementReader(words, {**names, "local": inner})
    block = reader.block()
    words.one_of(("answer",))
    result = reader.expression()
    words.one_of(("end",))
    return (name, size, answers, inner, block, result)


def read_locals(words, variables):
    """Takes the parameter and the other locals of a procedure."""
    found = [words.name(variables)]
    while words.ahead() == "local" and len(found) < MOST_LOCALS:
        words.take()
        found.append(words.name([*variables, *found]))
    return tuple(found)


def game_text(game):
    """The text of a game, or of a context."""
    found = [
        *row_words("var", game.variables),
        *row_words("table", game.tables),
        *row_words("lots", game.lots),
    ]
    for proc in game.procs:
        found.extend(proc_words(proc))
    return " ".join(found)


def row_words(kind, rows):
    """The words of the lines of variables, tables or lots."""
    found = []
    for name, first, second in rows:
        found.extend([kind, name, str(first), str(second)])
    return found


def proc_words(proc):
    """The words of a procedure."""
    name, size, answers, inner, block, result = proc
    found = ["proc", name, str(size), str(answers), inner[0]]
    for local in inner[1:]:
        found.extend(["local", local])
    return [*found, *block_words(block), "answer", *expression_words(result), "end"]
