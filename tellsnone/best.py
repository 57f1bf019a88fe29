"""The players that tell two games apart best (point 13)."""

from tellsnone.beliefs import answer_shares, behind_answers, first_belief, whole
from tellsnone.errors import BadPlayer, TooLarge
from tellsnone.ratio import Ratio
from tellsnone.running import Runner

MOST_LOOKS = 3000


def runners(game, other):
    """Runners of two games with the same face."""
    if face(game) != face(other):
        raise BadPlayer("games with different faces")
    return Runner(game), Runner(other)


def face(game):
    """What a player can know of a game ahead of all calls."""
    return [proc[:3] for proc in game.procs]


def best_player(game, other, calls):
    """The greatest gain of players of at most so many calls, and a player that has it."""
    first, second = runners(game, other)
    return greatest(first, second, calls)


def apart(game, other, calls):
    """The greatest difference for players of at most so many calls."""
    first, second = runners(game, other)
    there = greatest(first, second, calls)[0]
    back = greatest(second, first, calls)[0]
    return back if there.below(back) else there


def refuting_player(game, other, calls, claim):
    """A player of at most so many calls whose chances differ by more than a ratio, or None."""
    first, second = runners(game, other)
    for here, there in ((first, second), (second, first)):
        gain, player = greatest(here, there, calls)
        if claim.below(gain):
            return player
    return None


def greatest(first, second, calls):
    """The greatest gain, and a player that has it, for two games with runners."""
    search = Search(first, second)
    return search.best(first_belief(first.game), first_belief(second.game), calls)


class Search:
    """The search for the greatest gain; `looks` is the number of calls that it has tried."""

    def __init__(self, first, second):
        self.first = first
        self.second = second
        self.looks = 0

    def best(self, belief, other, left):
        """The greatest gain, and a player that has it, from a belief in each game on."""
        gain, player = saying(whole(belief), whole(other))
        if left <= 0:
            return gain, player
        for proc in self.first.game.procs:
            for number in range(proc[1]):
                more, asking = self.ask(belief, other, left, proc[0], number)
                if gain.below(more):
                    gain = more
                    player = asking
        return gain, player

    def ask(self, belief, other, left, procedure, number):
        """The greatest gain of players that begin with a certain call, and one that has it.

        An answer that cannot come in the first game has no gain, and needs no part.
        """
        gain = Ratio(0)
        parts = []
        for answer, more, player in self.look(belief, other, left, procedure, number):
            if more.num > 0:
                gain = gain + more
                parts.append((answer, player))
        return gain, ("ask", procedure, number, tuple(parts))

    def look(self, belief, other, left, procedure, number):
        """Tries a call: each answer that can come in the first game, with what is best behind it."""
        self.looks += 1
        if self.looks > MOST_LOOKS:
            raise TooLarge("looks")
        if left == 1:
            ours = answer_shares(self.first, belief, procedure, number)
            theirs = answer_shares(self.second, other, procedure, number)
            return [(answer, *saying(ours[answer], theirs.get(answer, Ratio(0)))) for answer in sorted(ours)]
        ours = behind_answers(self.first, belief, procedure, number)
        theirs = behind_answers(self.second, other, procedure, number)
        return [(answer, *self.best(ours[answer], theirs.get(answer, {}), left - 1)) for answer in sorted(ours)]


def saying(share, other):
    """The gain of the better one of yes and no, and this player, for the chances so far in the games."""
    if other.below(share):
        return share - other, ("say", True)
    return Ratio(0), ("say", False)
