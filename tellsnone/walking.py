"""Walking through expressions and statements, and changing them wherever they stand."""

from tellsnone.expressions import LOOKS, OPERATORS
from tellsnone.game import Game
from tellsnone.statements import FORMS


def every_expression(expression):
    """An expression and all the expressions in it."""
    found = [expression]
    if expression[0] in OPERATORS:
        found.extend(every_expression(expression[1]))
    if expression[0] in OPERATORS or expression[0] in LOOKS:
        found.extend(every_expression(expression[2]))
    return found


def changed_expression(expression, change):
    """An expression in which each one, inner ones first, became what `change` tells for it."""
    head = expression[0]
    if head in OPERATORS:
        left = changed_expression(expression[1], change)
        return change((head, left, changed_expression(expression[2], change)))
    if head in LOOKS:
        return change((head, expression[1], changed_expression(expression[2], change)))
    return change(expression)


def every_statement(block):
    """The statements of a block and all the statements in them, in the order in which they stand."""
    found = []
    for statement in block:
        found.append(statement)
        for inner in inner_blocks(statement):
            found.extend(every_statement(inner))
    return found


def inner_blocks(statement):
    """The blocks that stand directly in a statement."""
    if statement[0] == "if":
        return [statement[2], statement[3]]
    if statement[0] == "after":
        return [statement[1]]
    return []


def own_expressions(statement):
    """The expressions of a statement, but not those of the statements in it."""
    word = statement[0]
    if word == "if":
        return [statement[1]]
    if word == "after":
        return []
    return [part for kind, part in zip(FORMS[word], statement[1:]) if kind == "expression"]


def with_own_expressions(statement, change):
    """A statement in which each of its own expressions became what `change` tells for it."""
    word = statement[0]
    if word == "if":
        _, test, first, second = statement
        return (word, change(test), first, second)
    if word == "after":
        return statement
    found = [word]
    for kind, part in zip(FORMS[word], statement[1:]):
        found.append(change(part) if kind == "expression" else part)
    return tuple(found)


def changed_block(block, change):
    """A block in which each statement, inner ones first, became the statements that `change` tells for it."""
    found = []
    for statement in block:
        found.extend(change(with_changed_blocks(statement, change)))
    return tuple(found)


def with_changed_blocks(statement, change):
    """A statement whose inner blocks are changed."""
    if statement[0] == "if":
        _, test, first, second = statement
        return ("if", test, changed_block(first, change), changed_block(second, change))
    if statement[0] == "after":
        return ("after", changed_block(statement[1], change))
    return statement


def with_changed_statements(game, change):
    """A game in which all statements are changed like this."""
    procs = []
    for name, size, answers, inner, block, result in game.procs:
        procs.append((name, size, answers, inner, changed_block(block, change), result))
    return Game(game.variables, game.tables, game.lots, tuple(procs))
