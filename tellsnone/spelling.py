"""Lots that are spelled out: a table that is filled when it is looked at (point 16)."""

from tellsnone.errors import BadStep
from tellsnone.game import Game, first_parts
from tellsnone.places import reads_local
from tellsnone.walking import every_statement, with_changed_statements


def spell(game, name):
    """The game with lots spelled out."""
    if name not in first_parts(game.lots) or name in first_parts(game.tables) or not can_spell(game, name):
        raise BadStep("spell")
    mine = [row for row in game.lots if row[0] == name]
    others = [row for row in game.lots if row[0] != name]
    many = mine[0][2]
    new = with_changed_statements(game, lambda statement: (spelled(statement, name, many),))
    return Game(game.variables, (*game.tables, *mine), tuple(others), new.procs)


def can_spell(game, name):
    """Whether no look at these lots has a key that reads the local it goes to.

    The spelled statement writes the local and then needs the key once more.
    """
    for proc in game.procs:
        for statement in every_statement(proc[4]):
            if is_look(statement, name) and reads_local(statement[3], statement[1]):
                return False
    return True


def is_look(statement, name):
    """Whether a statement looks at lots with this name."""
    return statement[0] == "lot" and statement[2] == name


def spelled(statement, name, many):
    """A statement, or what a look at the lots with this name and so many values becomes."""
    if not is_look(statement, name):
        return statement
    _, local, _, key = statement
    known = (("let", local, ("cell", name, key)),)
    new = (("draw", local, many), ("put", name, key, ("local", local)))
    return ("if", ("has", name, key), known, new)
