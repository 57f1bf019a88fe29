"""Point 12: chances of players, and their calls."""

import unittest
from fractions import Fraction
from random import Random

import oracle
from helpers import fraction
from random_games import Maker
from tellsnone.errors import TooLarge
from tellsnone.game import read_game
from tellsnone.players import calls_of, chance
from tellsnone.ratio import Ratio

YES, NO = ("say", True), ("say", False)
DICE = read_game("proc p 3 6 x draw x 6 answer x end")
LOTS = read_game("lots o 3 4 proc p 3 4 x lot x o x answer x end")
URN = read_game("var n 9 3 var m 9 2 proc p 1 2 x local y draw y 60 if < y / * n 60 + n m set n - n 1 let x 1 "
                "else set m - m 1 end answer x end")
FACES = (("p", 3, 4), ("r", 2, 3))


def asked(number, *parts, procedure="p"):
    return ("ask", procedure, number, parts)


def turned(player):
    """The player that says no where this one says yes, and the other way round, in a game with answers below 6."""
    if player[0] == "say":
        return ("say", not player[1])
    if player[0] == "toss":
        return ("toss", tuple([turned(part) for part in player[1]]))
    parts = {**dict.fromkeys(range(6), NO), **dict(player[3])}
    return (*player[:3], tuple([(answer, turned(part)) for answer, part in parts.items()]))


def random_player(random, depth):
    """A player for games with the faces above."""
    pick = random.randrange(6)
    if depth == 0 or pick == 0:
        return random.choice((YES, NO))
    if pick == 1:
        return ("toss", tuple([random_player(random, depth - 1) for _ in range(random.randint(1, 3))]))
    answers = random.sample(range(5), random.randint(1, 5))
    parts = tuple([(answer, random_player(random, depth - 1)) for answer in answers])
    return ("ask", random.choice("pr"), random.randrange(5), parts)


class TestChance(unittest.TestCase):

    def check(self, game, player, *expected):
        found = chance(game, player)
        self.assertIs(type(found), Ratio)
        self.assertEqual((found.num, found.den), (Fraction(*expected).numerator, Fraction(*expected).denominator))

    def test_say(self):
        for game in (DICE, LOTS, read_game("")):
            self.check(game, YES, 1)
            self.check(game, NO, 0)

    def test_one_call(self):
        self.check(DICE, asked(0, (0, YES)), 1, 6)
        self.check(DICE, asked(0, (0, YES), (5, YES)), 1, 3)
        self.check(DICE, asked(0, (0, YES), (1, NO), (2, YES), (3, NO), (4, YES)), 1, 2)
        self.check(DICE, asked(0, *[(answer, YES) for answer in range(6)]), 1)
        self.check(DICE, asked(0, *[(answer, NO) for answer in range(6)]), 0)

    def test_answers_without_a_part(self):
        self.check(DICE, asked(0), 0)
        self.check(DICE, asked(0, (0, NO)), 0)
        self.check(DICE, asked(0, (6, YES), (64, YES)), 0)
        self.check(DICE, asked(0, (0, asked(0)), (1, YES)), 1, 6)

    def test_two_calls(self):
        self.check(DICE, asked(0, (0, asked(0, (0, YES)))), 1, 36)
        self.check(DICE, asked(0, (0, asked(0, (0, YES))), (1, YES), (2, asked(1, (0, YES), (1, YES)))), 9, 36)
        again = [(answer, asked(0, (answer, YES))) for answer in range(6)]
        self.check(DICE, asked(0, *again), 1, 6)

    def test_numbers_of_calls(self):
        same = [(answer, asked(1, (answer, YES))) for answer in range(4)]
        self.check(LOTS, asked(1, *same), 1)
        self.check(LOTS, asked(4, *same), 1)
        self.check(LOTS, asked(2, *same), 1, 4)
        self.check(LOTS, asked(10 ** 12, *same), 1)
        self.check(LOTS, asked(10 ** 12 + 1, *same), 1, 4)

    def test_calls_that_depend_on_each_other(self):
        self.check(URN, asked(0, (1, YES)), 3, 5)
        self.check(URN, asked(0, (1, asked(0, (1, YES)))), 3, 10)
        self.check(URN, asked(0, (1, asked(0, (1, asked(0, (1, YES)))))), 1, 10)
        self.check(URN, asked(0, (1, asked(0, (0, YES))), (0, asked(0, (1, YES)))), 3, 5)
        self.check(URN, asked(0, (0, asked(0, (0, asked(0, (0, YES)))))), 0)

    def test_one_player_behind_several_answers(self):
        second = asked(0, (1, YES))
        self.check(URN, asked(0, (0, second), (1, second)), 3, 5)
        third = asked(0, (0, second), (1, second))
        self.check(URN, asked(0, (0, third), (1, third)), 3, 5)
        self.check(URN, asked(0, (0, second), (1, asked(0, (1, YES)))), 3, 5)

    def test_toss(self):
        self.check(DICE, ("toss", (YES,)), 1)
        self.check(DICE, ("toss", (YES, NO)), 1, 2)
        self.check(DICE, ("toss", (YES, NO, NO)), 1, 3)
        self.check(DICE, ("toss", (NO,) * 15 + (YES,)), 1, 16)
        self.check(DICE, ("toss", (YES, asked(0, (1, YES)), NO)), 7, 18)
        self.check(DICE, ("toss", (asked(0, (1, YES)), asked(0, (1, YES)), YES)), 4, 9)
        self.check(DICE, ("toss", (("toss", (YES, NO)), NO, ("toss", (YES, YES, NO)))), 7, 18)
        self.check(DICE, asked(0, (0, ("toss", (YES, NO))), (1, YES)), 1, 4)

    def test_toss_of_questions_that_go_on(self):
        player = asked(0, (1, ("toss", (asked(0, (1, YES)), asked(0, (0, YES)), YES))))
        self.check(URN, player, Fraction(3, 5) * (Fraction(1, 2) + Fraction(1, 2) + 1) / 3)

    def test_the_player_that_says_the_contrary(self):
        players = (asked(0, (1, YES)), asked(0, (1, asked(0, (1, YES), (0, NO))), (0, asked(0, (1, YES)))),
                   ("toss", (YES, asked(0, (0, YES)), NO)))
        for player in players:
            for game in (DICE, LOTS, URN):
                self.assertEqual(fraction(chance(game, player)) + fraction(chance(game, turned(player))), 1)

    def test_eight_calls(self):
        player = YES
        for _ in range(8):
            player = asked(0, (0, player))
        self.check(DICE, player, 1, 6 ** 8)
        player = YES
        for _ in range(8):
            player = asked(0, *[(answer, player) for answer in range(64)])
        self.check(DICE, player, 1)
        player = YES
        for _ in range(8):
            player = ("toss", (player,) * 15 + (NO,))
        self.check(DICE, player, 15 ** 8, 16 ** 8)

    def test_too_many_ways(self):
        huge = "proc p 2 2 x if x draw x 64 draw x 64 draw x 64 end answer x end"
        game = read_game(huge)
        self.check(game, asked(0, (0, YES), (1, asked(1, (0, YES)))), 1)
        for player in (asked(1), asked(1, (0, YES)), ("toss", (YES, asked(1))), asked(0, (0, asked(3)))):
            with self.assertRaises(TooLarge) as caught:
                chance(game, player)
            self.assertEqual(caught.exception.what, "ways")

    def test_random_players_of_random_games(self):
        some = set()
        for seed in range(250):
            game, random = Maker(seed).game(FACES), Random(seed)
            for _ in range(3):
                player = random_player(random, 3)
                found = fraction(chance(game, player))
                self.assertEqual(found, oracle.chance(game, player), (seed, player))
                some.add(found)
        self.assertGreater(len(some), 50)


class TestCalls(unittest.TestCase):

    def test_say_and_one_call(self):
        self.assertEqual([calls_of(YES), calls_of(NO)], [0, 0])
        self.assertEqual(calls_of(asked(0)), 1)
        self.assertEqual(calls_of(asked(0, (0, YES), (1, NO))), 1)

    def test_ways_of_different_lengths(self):
        one, two = asked(0, (0, YES)), asked(0, (0, asked(1)))
        self.assertEqual(calls_of(asked(0, (0, YES), (1, two), (2, one))), 3)
        self.assertEqual(calls_of(asked(0, (0, two), (1, YES))), 3)
        self.assertEqual(calls_of(asked(0, (0, one), (1, one), (99, two))), 3)
        self.assertEqual(calls_of(("toss", (YES, one, two, one))), 2)

    def test_tosses_are_no_calls(self):
        self.assertEqual(calls_of(("toss", (YES, NO))), 0)
        self.assertEqual(calls_of(("toss", (("toss", (YES,)), ("toss", (asked(0),))))), 1)
        self.assertEqual(calls_of(asked(0, (0, ("toss", (asked(0), YES))))), 2)

    def test_many(self):
        player = YES
        for calls in range(1, 9):
            player = asked(0, (0, player), (1, YES))
            self.assertEqual(calls_of(player), calls)
            self.assertEqual(calls_of(("toss", (YES, player))), calls)


def chain(calls, last=YES):
    """So many questions one after the other, and what stands at their end; each one is built anew."""
    player = last
    for at in range(calls):
        player = asked(at, (0, player))
    return player


def tossing(calls):
    """So many questions one after the other, each one behind a toss."""
    player = YES
    for at in range(calls):
        player = ("toss", (NO, asked(at, (0, player))))
    return player


class TestCallsOfDeepPlayers(unittest.TestCase):
    """Players of tactics may be deeper than Python's recursion, and equal ones may stand beside each other."""

    def test_around_all_depths(self):
        for calls in [*range(1, 120), 332, 333, 334, 340, 500, 998, 999, 1000, 1999]:
            self.assertEqual(calls_of(chain(calls)), calls)
            self.assertEqual(calls_of(asked(0, (0, chain(calls)), (1, chain(calls)))), calls + 1)
            self.assertEqual(calls_of(tossing(calls)), calls)

    def test_equal_ones_beside_each_other(self):
        for calls in (49, 50, 51, 340, 900):
            self.assertEqual(calls_of(("toss", tuple([chain(calls) for _ in range(4)]))), calls)
            self.assertEqual(calls_of(("toss", (tossing(calls), tossing(calls)))), calls)
            self.assertEqual(calls_of(asked(0, (0, YES), (1, chain(calls)), (2, NO), (3, chain(calls)))), calls + 1)

    def test_beside_longer_and_shorter_ones(self):
        for calls in (49, 50, 51, 340, 900):
            for others in ((calls - 1, calls), (calls, calls - 1), (calls, 1), (1, calls), (0, calls, 0, calls - 1)):
                self.assertEqual(calls_of(("toss", tuple([chain(many) for many in others]))), calls)

    def test_different_ones_with_equal_beginnings(self):
        self.assertEqual(calls_of(("toss", (chain(900, YES), chain(900, NO), chain(900, asked(7)), chain(900)))), 901)

    def test_wide_players_of_few_parts_in_deep_ones(self):
        wide = YES
        for _ in range(30):
            wide = asked(0, *[(answer, wide) for answer in range(64)])
        self.assertEqual(calls_of(wide), 30)
        self.assertEqual(calls_of(chain(500, wide)), 530)
        self.assertEqual(calls_of(("toss", (chain(500, wide), wide, chain(2, wide)))), 530)

    def test_a_question_on_each_side(self):
        player = YES
        for at in range(900):
            player = asked(at, (0, chain(3)), (1, player), (2, chain(3)))
        self.assertEqual(calls_of(player), 903)


if __name__ == "__main__":
    unittest.main()
