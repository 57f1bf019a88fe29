"""What several tests use."""

from tellsnone.errors import BadText
from tellsnone.game import read_game

MANY = "var a 9 3 var b 2 0 table t 4 5 table s 1 1 lots o 8 7 lots u 2 2 "


def refused_at(text, asked=()):
    """The index at which a text is refused, or None if it is read."""
    try:
        read_game(text, asked)
    except BadText as wrong:
        return wrong.at
    return None


def in_proc(statements, result="0"):
    """The text of a game with variables, tables, lots, and a procedure with these statements."""
    block = [statements] if statements else []
    return MANY + " ".join(["proc p 6 5 x local y", *block, "answer", result, "end"])


def before_statements():
    """The number of words in front of the statements of `in_proc`."""
    return len(MANY.split()) + len("proc p 6 5 x local y".split())


def block_of(statements, asked=()):
    """The data of statements."""
    return read_game(in_proc(statements), asked).procs[0][4]


def result_of(expression):
    """The data of an expression."""
    return read_game(in_proc("", expression)).procs[0][5]


def block_refused_at(statements, asked=()):
    """The index, from the first statement on, at which statements are refused, or None."""
    at = refused_at(in_proc(statements), asked)
    return None if at is None else at - before_statements()


def expression_refused_at(expression):
    """The index, from the first word of the expression on, at which it is refused, or None."""
    at = refused_at(in_proc("", expression))
    return None if at is None else at - before_statements() - 1
