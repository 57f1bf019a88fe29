"""Players, and their chances (points 11 and 12)."""

from tellsnone.beliefs import behind_answers, first_belief, together, whole
from tellsnone.errors import BadPlayer
from tellsnone.ratio import Ratio
from tellsnone.running import Runner

DEEPEST_PLAYER = 8
MOST_TOSSED = 16
# Comparing players recurses as deep as both of them are, and those of tactics may be deeper than Python's recursion.
DEEPEST_COMPARED = 50


def parts_of(player):
    """The players as which a player can go on."""
    if player[0] == "ask":
        return [part[1] for part in player[3]]
    if player[0] == "toss":
        return list(player[1])
    return []


def next_players(player):
    """The players as which a player that is not deep can go on, each once.

    Players are often built of few parts, which need not be followed again and again.
    """
    found = []
    for part in parts_of(player):
        if part not in found:
            found.append(part)
    return found


def check_player(game, player):
    """Raises BadPlayer if a player does not fit a game."""
    check_below(game, player, DEEPEST_PLAYER)


def check_below(game, player, left):
    """Checks a player in front of which `left` more calls and tosses may stand."""
    if player[0] == "say":
        return
    if left == 0:
        raise BadPlayer("too many calls and tosses one after the other")
    if player[0] == "ask":
        check_ask(game, player)
    elif not 1 <= len(player[1]) <= MOST_TOSSED:
        raise BadPlayer("no or too many players in a toss")
    fitting = []
    for part in parts_of(player):
        # Parts that fit are not deep, so any part can be compared with them.
        if part not in fitting:
            check_below(game, part, left - 1)
            fitting.append(part)


def check_ask(game, player):
    """Checks a question, but for the players in its parts."""
    _, procedure, number, parts = player
    if game.proc(procedure) is None:
        raise BadPlayer(f"no procedure {procedure}")
    if number < 0:
        raise BadPlayer("a negative number")
    if len({part[0] for part in parts}) < len(parts):
        raise BadPlayer("an answer with two parts")


def calls_of(player):
    """The greatest number of calls on a way through a player.

    Where a player is deep, its parts are followed one by one, without comparing them.
    """
    most = 0
    waiting = [(player, 0)]
    while waiting:
        part, made = waiting.pop()
        calls = calls_within(part, DEEPEST_COMPARED)
        if calls is None:
            waiting.extend([(each, made + own_calls(part)) for each in parts_of(part)])
        else:
            most = max(most, made + calls)
    return most


def calls_within(player, left):
    """The calls of a player, or None if more than `left` calls and tosses stand one after the other in it."""
    if player[0] == "say":
        return 0
    if left == 0:
        return None
    most = 0
    followed = []
    for part in parts_of(player):
        if part not in followed:
            calls = calls_within(part, left - 1)
            if calls is None:
                return None
            most = max(most, calls)
            followed.append(part)
    return most + own_calls(player)


def own_calls(player):
    """The number of calls that a player makes before it goes on as another one."""
    return 1 if player[0] == "ask" else 0


def chance(game, player):
    """The chance that a player says yes."""
    check_player(game, player)
    return chance_from(Runner(game), first_belief(game), player)


def chance_from(runner, belief, player):
    """The chance that the states of a belief come and a player says yes behind them."""
    if player[0] == "say":
        return whole(belief) if player[1] else Ratio(0)
    if player[0] == "ask":
        return ask_chance(runner, belief, player)
    found = Ratio(0)
    for part in next_players(player):
        found = found + chance_from(runner, belief, part) * Ratio(player[1].count(part), len(player[1]))
    return found


def ask_chance(runner, belief, player):
    """The same for a question."""
    _, procedure, number, parts = player
    behind = behind_answers(runner, belief, procedure, number)
    found = Ratio(0)
    for part in next_players(player):
        answers = [answer for answer, other in parts if other == part and answer in behind]
        if answers:
            found = found + chance_from(runner, together([behind[answer] for answer in answers]), part)
    return found
