"""Point 11: players that fit a game, and players that do not."""

import copy
import unittest

from tellsnone.errors import BadPlayer
from tellsnone.game import read_game
from tellsnone.players import calls_of, chance, check_player

GAME = read_game("proc p 3 4 x answer x end proc r 2 2 x answer 0 end")
HUGE = read_game("proc p 3 4 x draw x 64 draw x 64 draw x 64 answer x end proc r 2 2 x answer 0 end")
YES, NO = ("say", True), ("say", False)
FAULTS = (
    ("ask", "q", 0, ()), ("ask", "", 0, ()), ("ask", "x", 0, ()), ("ask", "q", 0, ((0, YES),)),
    ("ask", "p", -1, ()), ("ask", "p", -10 ** 9, ((0, YES),)), ("ask", "q", -1, ()),
    ("ask", "p", 0, ((1, YES), (1, NO))), ("ask", "p", 0, ((1, YES), (1, YES))),
    ("ask", "p", 0, ((1, YES), (2, YES), (1, YES))), ("ask", "p", 0, ((0, NO), (1, YES), (2, NO), (3, NO), (0, NO))),
    ("ask", "p", 0, ((99, YES), (2, YES), (99, NO))),
    ("toss", ()), ("toss", (YES,) * 17), ("toss", (YES, NO) * 50), ("toss", (NO,) * 16 + (YES,)),
)


def fits(player, game=GAME):
    """Whether a player fits, as all functions tell that check it."""
    try:
        told = check_player(game, player)
    except BadPlayer:
        return False
    assert told is None
    return True


def line(words, last):
    """Questions and tosses one after the other, and what stands at their end."""
    player = last
    for word in reversed(words):
        player = ("toss", (player,)) if word == "toss" else ("ask", "p", 0, ((0, player),))
    return player


class TestGoodPlayers(unittest.TestCase):

    def test_say(self):
        self.assertTrue(fits(YES))
        self.assertTrue(fits(NO))
        self.assertTrue(fits(YES, read_game("")))

    def test_ask(self):
        for number in (0, 2, 3, 64, 10 ** 12):
            self.assertTrue(fits(("ask", "p", number, ())))
            self.assertTrue(fits(("ask", "r", number, ((1, YES),))))

    def test_parts(self):
        self.assertTrue(fits(("ask", "p", 0, ((0, YES), (1, NO), (2, YES), (3, NO)))))
        self.assertTrue(fits(("ask", "p", 0, ((3, YES), (0, NO), (1, YES)))))
        self.assertTrue(fits(("ask", "p", 0, ((0, ("ask", "r", 0, ((0, YES),))), (1, ("ask", "r", 0, ((0, YES),)))))))

    def test_parts_for_answers_that_cannot_come(self):
        self.assertTrue(fits(("ask", "p", 0, ((4, YES), (63, NO), (64, YES), (1000, YES)))))

    def test_toss(self):
        for many in (1, 2, 15, 16):
            self.assertTrue(fits(("toss", (YES,) * many)))
            self.assertTrue(fits(("toss", (NO,) * (many - 1) + (YES,))))
        for player in ((), (YES,) * 17):
            self.assertFalse(fits(("toss", player)))


class TestFaults(unittest.TestCase):

    def test_at_the_top(self):
        for player in FAULTS:
            self.assertFalse(fits(player), player)

    def test_in_a_part(self):
        for player in FAULTS:
            for answer in (0, 3, 4, 99):
                self.assertFalse(fits(("ask", "p", 0, ((answer, player),))), player)
                self.assertFalse(fits(("ask", "r", 0, ((1, YES), (answer, player), (2, NO)))), player)
                self.assertFalse(fits(("ask", "r", 0, ((1, ("ask", "p", 0, ())), (answer, player)))), player)
                self.assertFalse(fits(("ask", "r", 0, ((1, ("ask", "p", 0, ((answer, player),))),))), player)

    def test_in_a_toss(self):
        for player in FAULTS:
            self.assertFalse(fits(("toss", (player,))), player)
            self.assertFalse(fits(("toss", (player, YES))), player)
            self.assertFalse(fits(("toss", (YES,) * 15 + (player,))), player)
            self.assertFalse(fits(("toss", (YES, NO, ("toss", (YES, player))))), player)
            self.assertFalse(fits(("toss", (("ask", "p", 0, ((0, YES), (7, player))),))), player)
            self.assertFalse(fits(("ask", "p", 0, ((7, ("toss", (YES, player))),))), player)

    def test_of_a_game_without_procedures(self):
        self.assertFalse(fits(("ask", "p", 0, ()), read_game("")))
        self.assertTrue(fits(("toss", (YES, NO)), read_game("")))

    def test_procedures_of_another_game(self):
        other = read_game("var p 5 0 table p 2 2 lots p 2 2 proc s 1 1 x answer x end")
        self.assertFalse(fits(("ask", "p", 0, ()), other))
        self.assertTrue(fits(("ask", "s", 0, ()), other))


class TestDepth(unittest.TestCase):

    def test_eight(self):
        for words in (["ask"] * 8, ["toss"] * 8, ["ask", "toss"] * 4, ["toss", "ask"] * 4, ["toss"] * 7 + ["ask"]):
            for end in (YES, NO):
                self.assertTrue(fits(line(words, end)), words)
            for count in range(8):
                self.assertTrue(fits(line(words[:count], ("ask", "p", 0, ()))), words)

    def test_nine(self):
        for words in (["ask"] * 8, ["toss"] * 8, ["ask", "toss"] * 4, ["toss", "ask"] * 4, ["toss"] * 7 + ["ask"]):
            self.assertFalse(fits(line(words, ("ask", "p", 0, ()))), words)
            self.assertFalse(fits(line(words, ("ask", "p", 0, ((0, YES),)))), words)
            self.assertFalse(fits(line(words, ("toss", (YES,)))), words)
            self.assertFalse(fits(line(words + ["ask"], NO)), words)

    def test_far_too_many(self):
        self.assertFalse(fits(line(["ask"] * 30, YES)))
        self.assertFalse(fits(line(["toss"] * 30, YES)))

    def test_hundreds(self):
        """Equal players beside each other that are so deep cannot be compared by Python's recursion."""
        for many in (9, 49, 50, 51, 332, 333, 334, 340, 900, 1999):
            deep = [line(words * many, end) for words in (["ask"], ["toss"], ["ask", "toss"]) for end in (YES, YES, NO)]
            for function in (check_player, chance):
                for player in (deep[0], ("toss", tuple(deep)), ("ask", "p", 0, tuple(enumerate(deep))),
                               ("toss", (YES, ("ask", "p", 0, ((0, NO), (1, deep[0]), (2, deep[1]))))),
                               ("ask", "p", 0, ((0, ("toss", (deep[3], deep[4], YES))), (1, YES)))):
                    with self.assertRaises(BadPlayer):
                        function(GAME, player)

    def test_beside_short_ones(self):
        eight, nine = line(["ask"] * 8, YES), line(["ask"] * 9, YES)
        self.assertTrue(fits(("ask", "p", 0, ((0, YES), (1, eight[3][0][1]), (2, NO)))))
        self.assertFalse(fits(("ask", "p", 0, ((0, YES), (1, eight), (2, NO)))))
        self.assertFalse(fits(("ask", "p", 0, ((0, eight[3][0][1]), (99, eight)))))
        self.assertTrue(fits(("toss", (YES, nine[3][0][1][3][0][1]))))
        self.assertFalse(fits(("toss", (YES,) * 15 + (eight,))))

    def test_a_fault_at_the_greatest_depth(self):
        self.assertTrue(fits(line(["ask", "toss"] * 3 + ["ask"], ("ask", "p", 0, ()))))
        self.assertFalse(fits(line(["ask", "toss"] * 3 + ["ask"], ("ask", "q", 0, ()))))
        self.assertFalse(fits(line(["ask", "toss"] * 3 + ["ask"], ("toss", ()))))

    def test_wide_players_of_few_parts(self):
        asked, tossed = YES, YES
        for _ in range(8):
            asked = ("ask", "p", 0, tuple([(answer, asked) for answer in range(64)]))
            tossed = ("toss", (tossed,) * 16)
        self.assertTrue(fits(asked))
        self.assertTrue(fits(tossed))
        self.assertFalse(fits(("toss", (asked,))))
        self.assertFalse(fits(("ask", "p", 0, ((0, YES), (1, tossed)))))
        self.assertEqual((calls_of(asked), calls_of(tossed)), (8, 0))


class TestAheadOfTooLarge(unittest.TestCase):

    def test_faults_in_a_game_with_too_many_ways(self):
        for fault in (*FAULTS, line(["ask"] * 9, YES), line(["ask", "toss"] * 5, YES)):
            for player in (fault, ("ask", "p", 0, ((0, YES), (99, fault))), ("toss", (("ask", "p", 0, ()), fault)),
                           ("ask", "p", 0, ((0, ("ask", "p", 1, ((7, fault),))),))):
                for function in (check_player, chance):
                    with self.assertRaises(BadPlayer):
                        function(HUGE, player)

    def test_a_player_that_fits_a_game_with_too_many_ways(self):
        self.assertTrue(fits(("ask", "p", 0, ((0, YES),)), HUGE))

    def test_chance_of_players_that_do_not_fit(self):
        for player in (*FAULTS, line(["toss"] * 9, YES)):
            with self.assertRaises(BadPlayer):
                chance(GAME, player)


class TestArguments(unittest.TestCase):

    def test_arguments_stay_as_they_were(self):
        player = ("toss", (("ask", "p", 5, ((1, YES), (2, ("ask", "r", 1, ())))), NO))
        before, game = copy.deepcopy(player), copy.deepcopy(vars(GAME))
        check_player(game=GAME, player=player)
        calls_of(player=player)
        chance(game=GAME, player=player)
        self.assertEqual((player, vars(GAME)), (before, game))


if __name__ == "__main__":
    unittest.main()
