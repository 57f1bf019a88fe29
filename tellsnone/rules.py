"""The rules of steps that nobody can notice (point 16)."""

from tellsnone.errors import BadStep
from tellsnone.folding import fold
from tellsnone.game import Game, first_parts
from tellsnone.places import block_reads, disturbs, expression_reads, own_writes, proc_reads, reads_local
from tellsnone.spelling import spell
from tellsnone.statements import MOST_DRAWN
from tellsnone.walking import with_changed_statements
from tellsnone.words import is_name

MOST_BEFORE_TOSS = 5
# The modulus of `+` (point 8) is divisible by these, so that adding and taking the remainder shifts evenly.
EVEN_DRAWS = (1, 2, 4, 8, 16, 32, 64)


def require(holds, step):
    """Refuses a step whose conditions do not hold."""
    if not holds:
        raise BadStep(step[0])


def proc_of(game, step):
    """The procedure of a step, which stands behind its rule."""
    proc = game.proc(step[1])
    require(proc is not None, step)
    return proc


def statement_of(game, step):
    """The procedure of a step, and its statement k."""
    proc = proc_of(game, step)
    require(0 <= step[2] < len(proc[4]), step)
    return proc, proc[4][step[2]]


def pair_of(game, step):
    """The procedure of a step, and its statements k and k + 1."""
    proc, statement = statement_of(game, step)
    require(step[2] + 1 < len(proc[4]), step)
    return proc, statement, proc[4][step[2] + 1]


def with_proc(game, new):
    """The game with a new procedure in the place of the one with its name."""
    procs = tuple([new if proc[0] == new[0] else proc for proc in game.procs])
    return Game(game.variables, game.tables, game.lots, procs)


def replaced(game, proc, at, many, statements):
    """The game with other statements in the place of so many ones of a procedure."""
    name, size, answers, inner, block, result = proc
    new = (*block[:at], *statements, *block[at + many:])
    return with_proc(game, (name, size, answers, inner, new, result))


def fold_step(game, _):
    """Works out what numbers alone decide."""
    return fold(game)


def swap_step(game, step):
    """Exchanges two statements that have nothing in common."""
    proc, one, other = pair_of(game, step)
    require(not disturbs(one, other) and not disturbs(other, one), step)
    return replaced(game, proc, step[2], 2, (other, one))


def drop_step(game, step):
    """Leaves out a `let` or a `draw` whose local is not read later."""
    proc, statement = statement_of(game, step)
    require(statement[0] in ("let", "draw"), step)
    later = [*block_reads(proc[4][step[2] + 1:]), *expression_reads(proc[5])]
    require(("local", statement[1]) not in later, step)
    return replaced(game, proc, step[2], 1, ())


def toss_step(game, step):
    """Draws a new local that nobody reads."""
    _, _, k, local, many = step
    name, size, answers, inner, block, result = proc_of(game, step)
    require(0 <= k <= len(block) and 1 <= many <= MOST_DRAWN, step)
    require(is_name(local) and local not in inner and local not in first_parts(game.variables), step)
    require(len(inner) <= MOST_BEFORE_TOSS, step)
    new = (*block[:k], ("draw", local, many), *block[k:])
    return with_proc(game, (name, size, answers, (*inner, local), new, result))


def shift_step(game, step):
    """Leaves out a shift of what was drawn evenly."""
    proc, drawn, moved = pair_of(game, step)
    require(drawn[0] == "draw" and drawn[2] in EVEN_DRAWS, step)
    _, local, many = drawn
    require(moved[:2] == ("let", local) and is_shift(moved[2], local, many), step)
    return replaced(game, proc, step[2], 2, (drawn,))


def is_shift(expression, local, many):
    """Whether an expression shifts a local within so many numbers, by something that does not read it."""
    if expression[0] != "mod" or expression[2] != ("number", many):
        return False
    inner = expression[1]
    return inner[0] == "+" and inner[1] == ("local", local) and not reads_local(inner[2], local)


def sink_step(game, step):
    """Moves a draw into both parts of an `if`."""
    proc, drawn, choice = pair_of(game, step)
    require(drawn[0] == "draw" and choice[0] == "if", step)
    _, test, first, second = choice
    require(not reads_local(test, drawn[1]), step)
    return replaced(game, proc, step[2], 2, (("if", test, (drawn, *first), (drawn, *second)),))


def erase_step(game, step):
    """Leaves out a variable or a table that no procedure reads."""
    _, kind, name = step
    require(name in first_parts(rows_of(game, kind)), step)
    require(not any([(kind, name) in proc_reads(proc) for proc in game.procs]), step)
    plain = with_changed_statements(game, lambda part: () if (kind, name) in own_writes(part) else (part,))
    others = tuple([row for row in rows_of(game, kind) if row[0] != name])
    if kind == "variable":
        return Game(others, game.tables, game.lots, plain.procs)
    return Game(game.variables, others, game.lots, plain.procs)


def rows_of(game, kind):
    """The variables or the tables; there is nothing else that can be erased."""
    if kind == "variable":
        return game.variables
    return game.tables if kind == "table" else ()


def spell_step(game, step):
    """Spells lots out."""
    return spell(game, step[1])


RULES = {
    "fold": fold_step,
    "swap": swap_step,
    "drop": drop_step,
    "toss": toss_step,
    "shift": shift_step,
    "sink": sink_step,
    "erase": erase_step,
    "spell": spell_step,
}
