"""Derivations: steps from game to game, and the bound that they add up to (points 16 and 17)."""

from tellsnone.best import apart
from tellsnone.bounds import Bound, nothing
from tellsnone.contexts import asks, compose
from tellsnone.errors import BadPlayer, BadStep
from tellsnone.ratio import Ratio
from tellsnone.rules import RULES
from tellsnone.until import alike, counted


def same(game, step):
    """The game behind a step that nobody can notice."""
    if step[0] not in RULES:
        raise BadStep(step[0])
    action = RULES[step[0]]
    return action(game, step)


class Derivation:
    """A derivation from the game `first` to the game `last`; `bound` is what its steps have added up to."""

    def __init__(self, game):
        self.first = game
        self.last = game
        self.bound = nothing()

    def step(self, step):
        """Takes a step. One that does not hold changes nothing."""
        game, bound = behind(self.last, step)
        self.last = game
        self.bound = self.bound.plus(bound)


def behind(game, step):
    """The game to which a step leads, and the bound that it adds."""
    if step[0] == "back":
        return behind_back(game, step)
    if step[0] == "until":
        return behind_until(game, step)
    if step[0] == "reckon":
        return behind_reckon(game, step)
    if step[0] == "inside":
        return behind_inside(game, step)
    return same(game, step), nothing()


def behind_back(game, step):
    """The same for a step to a game from which a step leads to the game now."""
    _, other, forth = step
    if not leads_to(other, forth, game):
        raise BadStep("back")
    return other, nothing()


def leads_to(game, step, other):
    """Whether a step that nobody can notice holds, and leads from a game to another one."""
    try:
        return same(game, step) == other
    except BadStep:
        return False


def behind_until(game, step):
    """The same for a step to a game that is alike until bad comes."""
    _, other = step
    if not alike(game, other):
        raise BadStep("until")
    return other, counted(game)


def behind_reckon(game, step):
    """The same for a step to a game with the same face."""
    _, other, calls = step
    if calls < 0:
        raise BadStep("reckon")
    try:
        most = apart(game, other, calls)
    except BadPlayer:
        raise BadStep("reckon") from None
    return other, Bound(most, Ratio(0), Ratio(0), calls)


def behind_inside(game, step):
    """The same for a step from a context around the first game of another derivation to it around the last one."""
    _, context, other = step
    if compose(context, other.first) != game:
        raise BadStep("inside")
    return compose(context, other.last), other.bound.within(asks(context))
