"""Contexts around games (point 20)."""

from tellsnone.errors import BadStep
from tellsnone.game import Game, first_parts
from tellsnone.statements import FORMS
from tellsnone.walking import changed_block, changed_expression, every_statement, with_own_expressions

NEW_NAMES = "q"


def asks(context):
    """The greatest number of `ask` statements in a procedure of a context."""
    return max([asks_in(proc[4]) for proc in context.procs], default=0)


def asks_in(block):
    """The number of `ask` statements, inner ones included."""
    return len([part for part in every_statement(block) if part[0] == "ask"])


def compose(context, game):
    """The context around a game."""
    if not names_fit(context, game) or not statements_fit(context, game):
        raise BadStep("inside")
    variables = context.variables + game.variables
    procs = tuple([composed(proc, game) for proc in context.procs])
    return Game(variables, context.tables + game.tables, context.lots + game.lots, procs)


def names_fit(context, game):
    """Whether the names of a context and a game can stand beside each other, and beside the new names."""
    outer = first_parts(context.variables)
    inner = first_parts(game.variables)
    if in_both(outer, inner) or in_both(locals_of(context), inner):
        return False
    if in_both(first_parts(context.tables), first_parts(game.tables)):
        return False
    if in_both(first_parts(context.lots), first_parts(game.lots)):
        return False
    names = [*outer, *inner, *locals_of(context), *locals_of(game)]
    return not any([name.startswith(NEW_NAMES) for name in names])


def in_both(names, others):
    """Whether a name stands in both lists."""
    return any([name in others for name in names])


def locals_of(game):
    """The locals of all procedures."""
    found = []
    for proc in game.procs:
        found.extend(proc[3])
    return found


def statements_fit(context, game):
    """Whether a context asks only procedures of the game, and has no `bad` and no `after`."""
    for proc in context.procs:
        for statement in every_statement(proc[4]):
            if statement[0] in ("bad", "after"):
                return False
            if statement[0] == "ask" and game.proc(statement[2]) is None:
                return False
    return True


def composed(proc, game):
    """A procedure of a context in which each `ask` has become what the game does."""
    name, size, answers, inner, block, result = proc
    asking = Asking(game)
    new = changed_block(block, lambda statement: asking.answered(statement))
    return (name, size, answers, (*inner, *asking.made), new, result)


class Asking:
    """Replaces the `ask` statements of one procedure; `made` has the new names that were needed so far."""

    def __init__(self, game):
        self.game = game
        self.made = []

    def answered(self, statement):
        """The statements that a statement of the context becomes."""
        if statement[0] != "ask":
            return (statement,)
        _, local, procedure, number = statement
        _, size, answers, inner, block, result = self.game.proc(procedure)
        names = self.new_names(inner)
        start = ("let", names[inner[0]], ("mod", number, ("number", size)))
        answer = ("let", local, ("mod", renamed(result, names), ("number", answers)))
        return (start, *renamed_block(block, names), answer)

    def new_names(self, inner):
        """New names for the locals of a procedure, by the old ones."""
        names = {}
        for local in inner:
            names[local] = f"{NEW_NAMES}{len(self.made)}"
            self.made.append(names[local])
        return names


def renamed(expression, names):
    """An expression with new names for its locals."""
    return changed_expression(expression, lambda part: ("local", names[part[1]]) if part[0] == "local" else part)


def renamed_block(block, names):
    """Statements with new names for their locals."""
    return changed_block(block, lambda statement: (renamed_statement(statement, names),))


def renamed_statement(statement, names):
    """A statement with new names, but not those in the statements in it."""
    new = with_own_expressions(statement, lambda part: renamed(part, names))
    word = new[0]
    if word in FORMS and FORMS[word][:1] == ("local",):
        return (word, names[new[1]], *new[2:])
    return new
