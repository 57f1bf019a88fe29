"""Games that are alike until bad comes, and how often it can come (points 18 and 19)."""

from tellsnone.bounds import Bound
from tellsnone.errors import BadStep
from tellsnone.places import reads_local
from tellsnone.ratio import Ratio
from tellsnone.walking import every_statement, with_changed_statements


def alike(game, other):
    """Whether two games are equal but for the statements within `after`."""
    return until_bad(game) == until_bad(other)


def until_bad(game):
    """A game without the statements within `after`; each `after` itself stays where it stands."""
    return with_changed_statements(game, lambda statement: (without_inner(statement),))


def without_inner(statement):
    """A statement, or an `after` without statements in it."""
    return ("after", ()) if statement[0] == "after" else statement


def counted(game):
    """The bound that counts how often bad can come."""
    plain = until_bad(game)
    puts = {row[0]: most_puts(plain, row[0]) for row in plain.tables}
    first = Ratio(0)
    more = Ratio(0)
    for proc in plain.procs:
        now, later = counted_proc(plain, proc[4], puts)
        first = greater(first, now)
        more = greater(more, later)
    return Bound(Ratio(0), first, more)


def most_puts(game, table):
    """The greatest number of `put` statements into a table in a procedure."""
    return max([puts_into(proc[4], table) for proc in game.procs], default=0)


def puts_into(block, table):
    """The number of `put` statements into a table, inner ones included."""
    return len([part for part in every_statement(block) if part[0] == "put" and part[1] == table])


def counted_proc(game, block, puts):
    """What the statements of a procedure count for first and for more."""
    first = Ratio(0)
    more = Ratio(0)
    for at, statement in enumerate(block):
        if not has_bad((statement,)):
            continue
        table, many = guard(game, block, at)
        if table is None:
            first = first + Ratio(1, many)
        else:
            first = first + Ratio(puts_into(block[:at], table), many)
            more = more + Ratio(puts[table], many)
    return first, more


def has_bad(block):
    """Whether a `bad` stands among statements, inner ones included."""
    return ("bad",) in every_statement(block)


def guard(game, block, at):
    """What guards the bads in a statement: the table that its test looks at, or None, and the number that is drawn."""
    statement = block[at]
    if statement[0] != "if" or at == 0 or block[at - 1][0] != "draw":
        raise BadStep("until")
    _, local, many = block[at - 1]
    _, test, _, second = statement
    if has_bad(second):
        raise BadStep("until")
    if test[0] == "has" and test[2] == ("local", local) and (test[1], many) in keys_of(game):
        return test[1], many
    if test[0] == "=" and test[1] == ("local", local) and not reads_local(test[2], local):
        return None, many
    raise BadStep("until")


def keys_of(game):
    """The names of the tables, each with its number of keys."""
    return [row[:2] for row in game.tables]


def greater(ratio, other):
    """The greater one of two ratios."""
    return other if ratio.below(other) else ratio
