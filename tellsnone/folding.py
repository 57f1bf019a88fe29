"""Working out what numbers alone decide (point 16)."""

from tellsnone.expressions import OPERATORS
from tellsnone.game import Game
from tellsnone.values import operator_value
from tellsnone.walking import changed_block, changed_expression, with_own_expressions


def fold(game):
    """The game with its procedures folded."""
    procs = []
    for name, size, answers, inner, block, result in game.procs:
        procs.append((name, size, answers, inner, changed_block(block, folded_statement), folded(result)))
    return Game(game.variables, game.tables, game.lots, tuple(procs))


def folded(expression):
    """An expression in which all operators on two numbers are worked out."""
    return changed_expression(expression, worked_out)


def worked_out(expression):
    """An expression, or its value if it is an operator on two numbers."""
    if expression[0] in OPERATORS and expression[1][0] == expression[2][0] == "number":
        return ("number", operator_value(expression[0], expression[1][1], expression[2][1]))
    return expression


def folded_statement(statement):
    """The statements that a statement becomes whose inner blocks are folded already."""
    new = with_own_expressions(statement, folded)
    if new[0] != "if":
        return (new,)
    _, test, first, second = new
    if first == second:
        return first
    if test[0] != "number":
        return (new,)
    return first if test[1] else second
