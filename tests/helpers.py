"""What several tests use."""

from fractions import Fraction

from tellsnone.errors import BadText
from tellsnone.game import read_game
from tellsnone.running import Runner, first_state

MANY = "var a 9 3 var b 2 0 table t 4 5 table s 1 1 lots o 8 7 lots u 2 2 "


def refused_at(text, asked=()):
    """The index at which a text is refused, or None if it is read."""
    try:
        read_game(text, asked)
    except BadText as wrong:
        return wrong.at
    return None


def in_proc(statements, result="0"):
    """The text of a game with variables, tables, lots, and a procedure with these statements."""
    block = [statements] if statements else []
    return MANY + " ".join(["proc p 6 5 x local y", *block, "answer", result, "end"])


def before_statements():
    """The number of words in front of the statements of `in_proc`."""
    return len(MANY.split()) + len("proc p 6 5 x local y".split())


def block_of(statements, asked=()):
    """The data of statements."""
    return read_game(in_proc(statements), asked).procs[0][4]


def result_of(expression):
    """The data of an expression."""
    return read_game(in_proc("", expression)).procs[0][5]


def block_refused_at(statements, asked=()):
    """The index, from the first statement on, at which statements are refused, or None."""
    at = refused_at(in_proc(statements), asked)
    return None if at is None else at - before_statements()


def expression_refused_at(expression):
    """The index, from the first word of the expression on, at which it is refused, or None."""
    at = refused_at(in_proc("", expression))
    return None if at is None else at - before_statements() - 1


def begun(text):
    """A game, its runner and its first state."""
    game = read_game(text)
    return game, Runner(game), first_state(game)


def fraction(ratio):
    """A Ratio as Python has fractions."""
    return Fraction(ratio.num, ratio.den)


def shares(ends):
    """A list of ends as a dict of fractions; an end that comes twice is an error."""
    found = {(state, answer): fraction(share) for state, answer, share in ends}
    assert len(found) == len(ends)
    return found


def answer_shares(ends):
    """The chances of the answers among ends."""
    found = {}
    for _, answer, share in ends:
        found[answer] = found.get(answer, 0) + fraction(share)
    return found


def only_end(text, number=0, state=None):
    """The state and the answer of a call of `p`, of which only one end can come."""
    _, runner, first = begun(text)
    ends = runner.ends(first if state is None else state, "p", number)
    assert len(ends) == 1 and fraction(ends[0][2]) == 1, ends
    return ends[0][0], ends[0][1]


def called(text, numbers):
    """The answers of several calls of `p`, one after the other, of which only one end each can come."""
    _, runner, state = begun(text)
    found = []
    for number in numbers:
        ((state, answer, _),) = runner.ends(state, "p", number)
        found.append(answer)
    return found
