"""Beliefs: dicts that tell, for each state that can be, the chance of it."""

from tellsnone.ratio import Ratio
from tellsnone.running import first_state


def first_belief(game):
    """What is known at the beginning."""
    return {first_state(game): Ratio(1)}


def add_share(shares, key, share):
    """Adds to the chance of a state or an answer."""
    shares[key] = shares[key] + share if key in shares else share


def whole(belief):
    """The chance of all states together."""
    found = Ratio(0)
    for state in belief:
        found = found + belief[state]
    return found


def behind_answers(runner, belief, procedure, number):
    """The beliefs behind a call, by its answers; each has the chance of its answer, too."""
    found = {}
    for state in belief:
        for end, answer, share in runner.ends(state, procedure, number):
            add_share(found.setdefault(answer, {}), end, belief[state] * share)
    return found


def answer_shares(runner, belief, procedure, number):
    """The chances of the answers of a call: the wholes of the beliefs behind them."""
    found = {}
    for state in belief:
        for answer, share in runner.answers(state, procedure, number):
            add_share(found, answer, belief[state] * share)
    return found


def together(beliefs):
    """One belief of several ones that cannot hold at once."""
    found = {}
    for belief in beliefs:
        for state in belief:
            add_share(found, state, belief[state])
    return found
