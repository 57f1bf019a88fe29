"""Point 25: the players of tactics."""

import copy
import time
import unittest

from helpers import fraction
from random_games import Maker, PlayerMaker
from tellsnone.errors import BadPlayer, TooLarge
from tellsnone.game import read_game
from tellsnone.players import calls_of, chance, check_player
from tellsnone.playertext import player_text, read_player
from tellsnone.tactics import Tactic, chance_of, player_of, read_tactic

YES, NO = ("say", True), ("say", False)
COIN = "proc p 1 2 x draw x 2 answer x end"
ECHO = "proc p 9 3 x answer x end proc r 2 1 x answer 0 end"
FACES = (("p", 3, 4), ("r", 2, 3))


def many_players(player):
    """The number of players in a player, itself included; players may be deeper than Python's own recursion."""
    found, left = 0, [player]
    while left:
        player = left.pop()
        found += 1
        if player[0] == "ask":
            left.extend([part for _, part in player[3]])
    return found


class Case(unittest.TestCase):

    def check(self, game, tactic, calls, text):
        """Checks the player of a tactic, and that the game and the tactic stay as they were."""
        game, tactic = read_game(game), read_tactic(tactic)
        before = copy.deepcopy((vars(game), tactic.rules))
        found = player_of(game=game, tactic=tactic, calls=calls)
        self.assertEqual(player_text(found), text)
        self.assertEqual(repr(found), repr(read_player(text)))
        self.assertEqual((vars(game), tactic.rules), before)

    def too_large(self, game, tactic, calls):
        with self.assertRaises(TooLarge) as caught:
            player_of(read_game(game), read_tactic(tactic), calls)
        self.assertIs(type(caught.exception), TooLarge)
        self.assertEqual(caught.exception.what, "player")


class TestPlayers(Case):

    def test_say(self):
        for part, word in (("1", "yes"), ("0", "no"), ("7", "yes"), ("last", "no"), ("= kept made", "yes")):
            self.check(COIN, f"when 1 say {part} 0", 3, f"say {word}")
            self.check("", f"when 1 say {part} 0", 0, f"say {word}")
        self.check(COIN, "", 3, "say no")
        self.check(COIN, "when 0 say 1 0", 3, "say no")

    def test_answers_are_true_and_false(self):
        game = read_game(COIN)
        self.assertIs(player_of(game, read_tactic("when 1 say 7 0"), 0)[1], True)
        self.assertIs(player_of(game, read_tactic("when 1 say 0 0"), 0)[1], False)
        self.assertIs(player_of(game, read_tactic(""), 0)[1], False)
        self.assertIs(player_of(game, read_tactic("when 1 ask p 0 0"), 0)[1], False)

    def test_a_part_for_each_answer(self):
        self.check(COIN, "when = made 0 ask p 0 0 when 1 say last 0", 1, "ask p 0 2 0 say no 1 say yes")
        self.check(ECHO, "when = made 0 ask p 5 0 when 1 say last 0", 1, "ask p 5 3 0 say no 1 say yes 2 say yes")
        self.check(ECHO, "when = made 0 ask r 5 0 when 1 say kept 0", 1, "ask r 5 1 0 say no")
        text = " ".join([f"{answer} say {'yes' if answer > 40 else 'no'}" for answer in range(64)])
        self.check("proc p 1 64 x answer 7 end", "when = made 0 ask p 0 0 when 1 say < 40 last 0", 1, f"ask p 0 64 {text}")

    def test_also_for_answers_that_cannot_come(self):
        self.check("proc p 1 4 x answer 2 end", "when = made 0 ask p 0 0 when 1 say last 0", 1,
                   "ask p 0 4 0 say no 1 say yes 2 say yes 3 say yes")

    def test_numbers_stay_as_they_are_asked(self):
        for number in (0, 8, 9, 10, 65535):
            self.check(ECHO, f"when = made 0 ask r {number} 0 when 1 say 1 0", 1, f"ask r {number} 1 0 say yes")
        self.check(ECHO, "when = made 0 ask r + 65535 5 0 when 1 say 1 0", 1, "ask r 4 1 0 say yes")

    def test_a_question_beyond_the_calls(self):
        self.check(COIN, "when 1 ask p 0 0", 0, "say no")
        self.check(COIN, "when 1 ask p 0 0 when 1 say 1 0", 0, "say no")
        self.check(COIN, "when 1 ask p 0 0", 1, "ask p 0 2 0 say no 1 say no")
        self.check(COIN, "when last say 1 0 when 1 ask p made 0", 2, "ask p 0 2 0 ask p 1 2 0 say no 1 say yes 1 say yes")
        self.assertEqual(repr(player_of(read_game(COIN), read_tactic("when 1 ask p 0 0"), 1)[3]), repr(((0, NO), (1, NO))))

    def test_what_is_known(self):
        self.check(ECHO, "when < made 2 ask p + * 10 made last + kept last when 1 say = + kept last 3 0", 2,
                   "ask p 0 3 0 ask p 10 3 0 say no 1 say no 2 say no 1 ask p 11 3 0 say no 1 say no 2 say yes "
                   "2 ask p 12 3 0 say no 1 say yes 2 say no")
        self.check(ECHO, "when < made 2 ask p 0 last when 1 say = + kept last 3 0", 2,
                   "ask p 0 3 0 ask p 0 3 0 say no 1 say no 2 say no 1 ask p 0 3 0 say no 1 say no 2 say yes "
                   "2 ask p 0 3 0 say no 1 say yes 2 say no")
        self.check(ECHO, "when = made 0 ask p 0 7 when = kept 7 ask r last kept when 1 say 1 0", 2,
                   "ask p 0 3 0 ask r 0 1 0 say no 1 ask r 1 1 0 say no 2 ask r 2 1 0 say no")
        self.check(ECHO, "when = made 0 ask p 0 7 when = kept 7 ask r last 0 when 1 say 1 0", 2,
                   "ask p 0 3 0 ask r 0 1 0 say yes 1 ask r 1 1 0 say yes 2 ask r 2 1 0 say yes")

    def test_it_does_the_same(self):
        for seed in range(60):
            game = Maker(seed).game(FACES)
            tactic = Tactic(PlayerMaker(seed, FACES).rules(4))
            for calls in (0, 1, 2, 3):
                player = player_of(game, tactic, calls)
                check_player(game, player)
                self.assertLessEqual(calls_of(player), calls)
                if calls < 3:
                    self.assertEqual(fraction(chance(game, player)), fraction(chance_of(game, tactic, calls)), (seed, calls))


class TestSizes(Case):

    def sized(self, game, tactic, calls, expected):
        player = player_of(read_game(game), read_tactic(tactic), calls)
        self.assertEqual(many_players(player), expected)
        return player

    def test_chains(self):
        game = "proc p 1 1 x answer 0 end"
        for calls in (0, 1, 8, 9, 500, 1998, 1999):
            player = self.sized(game, "when 1 ask p made 0", calls, calls + 1)
            self.assertEqual(calls_of(player), calls)
            for at in range(calls):
                self.assertEqual(player[:3], ("ask", "p", at))
                ((answer, player),) = player[3]
                self.assertEqual(answer, 0)
            self.assertEqual(player, NO)
        for calls in (2000, 2001, 10 ** 9):
            self.too_large(game, "when 1 ask p made 0", calls)
        self.sized(game, "when < made 1999 ask p 0 0 when 1 say 1 0", 10 ** 9, 2000)
        self.too_large(game, "when < made 2000 ask p 0 0 when 1 say 1 0", 10 ** 9)

    def test_players_that_are_too_deep_for_a_game(self):
        game = read_game("proc p 1 1 x answer 0 end")
        for calls in (9, 10, 1999):
            player = player_of(game, read_tactic("when 1 ask p made 0"), calls)
            for function in (check_player, chance):
                with self.assertRaises(BadPlayer):
                    function(game, player)
        check_player(game, player_of(game, read_tactic("when 1 ask p made 0"), 8))

    def test_equal_chains_behind_a_question(self):
        game = read_game("proc p 1 2 x draw x 2 answer x end proc r 1 1 y answer 0 end")
        tactic = read_tactic("when = made 0 ask p 0 0 when 1 ask r 0 0")
        for calls in (2, 50, 51, 52, 332, 333, 334, 340, 900, 998, 999):
            player = player_of(game, tactic, calls)
            self.assertEqual(many_players(player), 2 * calls + 1)
            self.assertEqual(calls_of(player), calls)
            if calls > 8:
                for function in (check_player, chance):
                    with self.assertRaises(BadPlayer):
                        function(game, player)

    def test_questions_among_chains(self):
        game = read_game("proc p 1 2 x draw x 2 answer x end proc r 1 1 y answer 0 end")
        for at, calls, many in ((300, 800, 1301), (600, 900, 1201), (1, 998, 1996)):
            player = player_of(game, read_tactic(f"when = made {at} ask p 0 0 when 1 ask r 0 0"), calls)
            self.assertEqual((calls_of(player), many_players(player)), (calls, many))
        player = player_of(game, read_tactic("when < 0 last say 1 0 when 1 ask p 0 0"), 900)
        self.assertEqual((calls_of(player), many_players(player)), (900, 1801))

    def test_trees(self):
        self.sized(COIN, "when 1 ask p 0 0", 9, 1023)
        self.too_large(COIN, "when 1 ask p 0 0", 10)
        self.sized("proc p 1 3 x answer 0 end", "when 1 ask p 0 0", 6, 1093)
        self.too_large("proc p 1 3 x answer 0 end", "when 1 ask p 0 0", 7)
        self.sized("proc p 1 64 x answer 0 end", "when 1 ask p 0 0", 1, 65)
        self.too_large("proc p 1 64 x answer 0 end", "when 1 ask p 0 0", 2)

    def test_exact_numbers(self):
        # 1 + 40 + 40 * 40 = 1641 players, and one more question each for some of the last ones.
        game = "proc p 1 40 x answer 0 end proc s 1 1 x answer 0 end"
        rules = "when = made 0 ask p 0 0 when = made 1 ask p 0 last " \
                "when * = made 2 < + * kept 40 last {} ask s 0 0 when 1 say 0 0"
        for more in (0, 1, 358, 359):
            self.sized(game, rules.format(more), 3, 1641 + more)
        for more in (360, 361, 1600):
            self.too_large(game, rules.format(more), 3)

    def test_very_large_trees_are_refused_in_little_time(self):
        begin = time.process_time()
        for calls in (30, 1000, 10 ** 12):
            self.too_large("proc p 1 64 x answer 0 end", "when 1 ask p 0 0", calls)
            self.too_large(COIN, "when 1 ask p 0 0", calls)
        self.assertLess(time.process_time() - begin, 20)

    def test_the_game_is_not_run(self):
        huge = "proc p 1 2 x draw x 64 draw x 64 draw x 64 answer x end"
        self.check(huge, "when = made 0 ask p 0 0 when 1 say last 0", 1, "ask p 0 2 0 say no 1 say yes")


class TestRefused(unittest.TestCase):

    def refuse(self, game, tactic, calls):
        with self.assertRaises(BadPlayer) as caught:
            player_of(read_game(game), read_tactic(tactic), calls)
        self.assertIs(type(caught.exception), BadPlayer)

    def test_procedures_that_there_are_not(self):
        for calls in (0, 1, 5):
            self.refuse(COIN, "when 1 ask r 0 0", calls)
            self.refuse(COIN, "when 0 ask r 0 0", calls)
            self.refuse(COIN, "when 1 say 1 0 when 0 ask x 0 0", calls)
            self.refuse("", "when 0 ask p 0 0", calls)

    def test_ahead_of_too_large(self):
        for calls in (11, 5000):
            self.refuse(COIN, "when 1 ask p 0 0 when 0 ask r 0 0", calls)
            self.refuse(COIN, "when 0 ask r 0 0 when 1 ask p 0 0", calls)


if __name__ == "__main__":
    unittest.main()
