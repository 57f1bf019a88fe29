"""Bounds for the difference of two games (points 14 and 15)."""

from tellsnone.errors import BadBound
from tellsnone.ratio import Ratio


class Bound:
    """A bound for each number of calls; `limit` is None where there is none."""

    def __init__(self, flat, first, more, limit=None):
        if flat.num < 0 or first.num < 0 or more.num < 0:
            raise BadBound("a negative ratio")
        if limit is not None and limit < 0:
            raise BadBound("a negative limit")
        self.flat = flat
        self.first = first
        self.more = more
        self.limit = limit

    def __eq__(self, other):
        return (isinstance(other, Bound) and self.flat == other.flat and self.first == other.first
                and self.more == other.more and self.limit == other.limit)

    def at(self, calls):
        """The bound for so many calls, a Ratio."""
        if calls == 0:
            return Ratio(0)
        if self.limit is not None and calls > self.limit:
            return Ratio(1)
        found = self.flat + self.first * Ratio(calls) + self.more * Ratio(pairs(calls))
        return found if found.below(Ratio(1)) else Ratio(1)

    def plus(self, other):
        """The bound of two steps one after the other."""
        limit = smaller_limit(self.limit, other.limit)
        return Bound(self.flat + other.flat, self.first + other.first, self.more + other.more, limit)

    def within(self, asks):
        """The bound within a context that asks so many times."""
        if asks == 0:
            return nothing()
        first = self.first * Ratio(asks) + self.more * Ratio(pairs(asks))
        limit = None if self.limit is None else self.limit // asks
        return Bound(self.flat, first, self.more * Ratio(asks * asks), limit)


def pairs(many):
    """The number of pairs of so many things."""
    return many * (many - 1) // 2


def smaller_limit(limit, other):
    """The smaller one of two limits, each of which may be None."""
    if limit is None or other is None:
        return other if limit is None else limit
    return min(limit, other)


def nothing():
    """The bound that adds nothing."""
    return Bound(Ratio(0), Ratio(0), Ratio(0))
