"""Players, and their chances (points 11 and 12)."""

from tellsnone.beliefs import behind_answers, first_belief, together, whole
from tellsnone.errors import BadPlayer
from tellsnone.ratio import Ratio
from tellsnone.running import Runner

DEEPEST_PLAYER = 8
MOST_TOSSED = 16


def different(players):
    """Each of some players once. Players are often built of few parts, which need not be followed again and again."""
    found = []
    for player in players:
        if player not in found:
            found.append(player)
    return found


def next_players(player):
    """The players as which a player can go on, each once."""
    if player[0] == "ask":
        return different([part[1] for part in player[3]])
    if player[0] == "toss":
        return different(player[1])
    return []


def check_player(game, player):
    """Raises BadPlayer if a player does not fit a game."""
    check_below(game, player, DEEPEST_PLAYER)


def check_below(game, player, left):
    """Checks a player in front of which `left` more calls and tosses may stand."""
    if player[0] == "say":
        return
    if left == 0:
        raise BadPlayer("too many calls and tosses one after the other")
    if player[0] == "ask":
        check_ask(game, player)
    elif not 1 <= len(player[1]) <= MOST_TOSSED:
        raise BadPlayer("no or too many players in a toss")
    for part in next_players(player):
        check_below(game, part, left - 1)


def check_ask(game, player):
    """Checks a question, but for the players in its parts."""
    _, procedure, number, parts = player
    if game.proc(procedure) is None:
        raise BadPlayer(f"no procedure {procedure}")
    if number < 0:
        raise BadPlayer("a negative number")
    if len({part[0] for part in parts}) < len(parts):
        raise BadPlayer("an answer with two parts")


def calls_of(player):
    """The greatest number of calls on a way through a player.

    The players of tactics may be very deep, so the calls are followed one after the other.
    """
    calls = 0
    asking = next_questions([player])
    while asking:
        calls += 1
        asking = next_questions([part for each in asking for part in next_players(each)])
    return calls


def next_questions(players):
    """The questions with which players begin, perhaps behind tosses."""
    found = []
    left = list(players)
    while left:
        player = left.pop()
        if player[0] == "ask":
            found.append(player)
        else:
            left.extend(next_players(player))
    return found


def chance(game, player):
    """The chance that a player says yes."""
    check_player(game, player)
    return chance_from(Runner(game), first_belief(game), player)


def chance_from(runner, belief, player):
    """The chance that the states of a belief come and a player says yes behind them."""
    if player[0] == "say":
        return whole(belief) if player[1] else Ratio(0)
    if player[0] == "ask":
        return ask_chance(runner, belief, player)
    found = Ratio(0)
    for part in next_players(player):
        found = found + chance_from(runner, belief, part) * Ratio(player[1].count(part), len(player[1]))
    return found


def ask_chance(runner, belief, player):
    """The same for a question."""
    _, procedure, number, parts = player
    behind = behind_answers(runner, belief, procedure, number)
    found = Ratio(0)
    for part in next_players(player):
        answers = [answer for answer, other in parts if other == part and answer in behind]
        if answers:
            found = found + chance_from(runner, together([behind[answer] for answer in answers]), part)
    return found
