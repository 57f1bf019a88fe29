"""Point 24: the chances of tactics."""

import copy
import time
import unittest
from fractions import Fraction

import oracle
from helpers import fraction
from random_games import Maker, PlayerMaker
from tellsnone.errors import BadPlayer, TooLarge
from tellsnone.game import read_game
from tellsnone.ratio import Ratio
from tellsnone.tactics import Tactic, chance_of, read_tactic

COIN = "proc p 1 2 x draw x 2 answer x end"
ECHO = "proc p 64 64 x answer x end proc r 2 64 x answer + x 10 end"
DICE = "proc p 9 7 x draw x 6 answer + x 1 end"
COUNTER = "var n 60 0 proc p 9 64 x set n + n x answer n end"
HUGE = "proc p 1 2 x draw x 64 draw x 64 draw x 64 answer x end proc r 1 2 x draw x 2 answer x end"
FACES = (("p", 3, 4), ("r", 2, 3))


class Case(unittest.TestCase):

    def check(self, game, tactic, calls, *expected):
        """Checks the chance of a tactic, and that the game and the tactic stay as they were."""
        game, tactic = read_game(game), read_tactic(tactic)
        before = copy.deepcopy((vars(game), tactic.rules))
        found = chance_of(game=game, tactic=tactic, calls=calls)
        self.assertIs(type(found), Ratio)
        self.assertEqual(fraction(found), Fraction(*expected))
        self.assertEqual((vars(game), tactic.rules), before)


class TestRules(Case):

    def test_no_rules(self):
        for game in ("", COIN, HUGE):
            for calls in (0, 1, 5):
                self.check(game, "", calls, 0)

    def test_no_rule_counts(self):
        self.check(COIN, "when 0 say 1 0", 3, 0)
        self.check(COIN, "when last say 1 0 when kept ask p 0 0 when made say 1 0", 3, 0)
        self.check(COIN, "when = made 0 ask p 0 0 when last say 1 0", 1, 1, 2)

    def test_say(self):
        for part, expected in (("1", 1), ("0", 0), ("2", 1), ("65535", 1), ("+ 65535 1", 0), ("- 1 2", 0), ("= 1 1", 1),
                               ("last", 0), ("made", 0), ("kept", 0), ("< 0 1", 1)):
            for calls in (0, 1, 7):
                self.check(COIN, f"when 1 say {part} 0", calls, expected)
        self.check("", "when 1 say 1 0", 0, 1)

    def test_the_first_rule_that_counts(self):
        self.check(COIN, "when 1 say 1 0 when 1 say 0 0", 0, 1)
        self.check(COIN, "when 1 say 0 0 when 1 say 1 0", 0, 0)
        self.check(COIN, "when 0 say 0 0 when 7 say 1 0 when 1 say 0 0", 0, 1)
        self.check(COIN, "when 0 ask p 0 0 when 65535 say 1 0", 0, 1)
        self.check(ECHO, "when = last 5 say 1 0 when made say 0 0 when 1 ask p 5 0", 1, 1)
        self.check(ECHO, "when made say 0 0 when = last 5 say 1 0 when 1 ask p 5 0", 1, 0)

    def test_tests(self):
        for test, expected in (("1", 1), ("2", 1), ("65535", 1), ("+ 1 65535", 0), ("0", 0), ("last", 0), ("= last made", 1)):
            self.check(COIN, f"when {test} say 1 0", 0, expected)


class TestWhatIsKnown(Case):

    def test_all_are_0_at_the_beginning(self):
        for word in ("last", "made", "kept"):
            self.check(COIN, f"when = {word} 0 say 1 0", 3, 1)
            self.check(COIN, f"when {word} say 1 0", 3, 0)

    def test_last(self):
        self.check(ECHO, "when = made 0 ask p 7 0 when 1 say = last 7 0", 1, 1)
        self.check(ECHO, "when = made 0 ask p 7 0 when = made 1 ask r 1 0 when 1 say = last 11 0", 2, 1)
        self.check(ECHO, "when < made 3 ask p + last 1 0 when 1 say = last 3 0", 3, 1)
        self.check(ECHO, "when < made 3 ask p + * last 2 1 0 when 1 say = last 7 0", 3, 1)

    def test_made(self):
        for calls in range(6):
            self.check(COIN, f"when < made {calls} ask p 0 0 when 1 say = made {calls} 0", 5, 1)
            self.check(ECHO, f"when < made {calls} ask p made 0 when 1 say = + last 1 made 0", 5, calls > 0)

    def test_kept(self):
        self.check(ECHO, "when = made 0 ask p 7 5 when 1 say = kept 5 0", 1, 1)
        self.check(ECHO, "when < made 3 ask p 7 + kept 2 when 1 say = kept 6 0", 3, 1)
        self.check(ECHO, "when < made 2 ask p 7 65535 when 1 say = kept 65535 0", 2, 1)
        self.check(ECHO, "when = made 0 ask p 7 5 when = made 1 ask p 7 0 when 1 say = kept 0 0", 2, 1)

    def test_kept_is_computed_with_the_values_before_the_call(self):
        self.check(ECHO, "when = made 0 ask p 7 last when 1 say = kept 0 0", 1, 1)
        self.check(ECHO, "when = made 0 ask p 7 last when = made 1 ask p 9 last when 1 say = kept 7 0", 2, 1)
        self.check(ECHO, "when < made 3 ask p 7 made when 1 say = kept 2 0", 3, 1)
        self.check(ECHO, "when < made 2 ask p 7 + 1 kept when 1 say = kept 2 0", 2, 1)

    def test_the_question_is_computed_with_the_values_before(self):
        self.check(ECHO, "when = made 0 ask p kept 9 when 1 say = last 0 0", 1, 1)
        self.check(ECHO, "when = made 0 ask p kept 9 when = made 1 ask p kept 3 when 1 say = last 9 0", 2, 1)
        self.check(ECHO, "when < made 2 ask p made 0 when 1 say = last 1 0", 2, 1)

    def test_what_a_say_keeps_does_not_matter(self):
        self.check(ECHO, "when 1 say kept 7", 1, 0)
        self.check(ECHO, "when 1 say last 7", 1, 0)


class TestCalls(Case):

    def test_asking_when_all_calls_are_made(self):
        self.check(COIN, "when 1 ask p 0 0", 0, 0)
        self.check(COIN, "when 1 ask p 0 0", 5, 0)
        self.check(COIN, "when = made 0 ask p 0 0 when 1 say 1 0", 0, 0)
        self.check(COIN, "when = made 0 ask p 0 0 when 1 say 1 0", 1, 1)
        self.check(ECHO, "when < made 3 ask p 1 0 when 1 say 1 0", 2, 0)
        self.check(ECHO, "when < made 3 ask p 1 0 when 1 say 1 0", 3, 1)
        self.check(COIN, "when last say 1 0 when 1 ask p 0 0", 4, 15, 16)

    def test_no_later_rule_counts_then(self):
        self.check(COIN, "when 1 ask p 0 0 when 1 say 1 0", 0, 0)
        self.check(COIN, "when = made 1 ask p 0 0 when made say 1 0 when 1 ask p 0 0", 1, 0)

    def test_no_calls(self):
        self.check(COIN, "when made say 1 0 when 1 say = last 0 0", 0, 1)
        self.check(HUGE, "when 1 ask p 0 0", 0, 0)

    def test_numbers_beyond_the_size(self):
        self.check(DICE.replace("answer + x 1", "answer 1"), "when = made 0 ask p 65535 0 when 1 say last 0", 1, 1)
        self.check(ECHO, "when = made 0 ask p 70 0 when 1 say = last 6 0", 1, 1)
        self.check(ECHO, "when = made 0 ask r 65535 0 when 1 say = last 11 0", 1, 1)
        self.check("proc p 3 64 x answer * x 10 end", "when < made 9 ask p made kept when 1 say = last 20 0", 9, 1)

    def test_the_state_stays(self):
        self.check(COUNTER, "when < made 5 ask p made 0 when 1 say = last 10 0", 5, 1)
        self.check("lots o 1 2 proc p 1 2 x lot x o 0 answer x end",
                   "when = made 0 ask p 0 0 when = made 1 ask p 0 last when 1 say = kept last 0", 2, 1)
        self.check(COIN, "when = made 0 ask p 0 0 when = made 1 ask p 0 last when 1 say = kept last 0", 2, 1, 2)
        self.check("proc p 1 2 x after let x 1 end bad answer x end", "when < made 2 ask p 0 0 when 1 say last 0", 2, 1)


class TestChances(Case):

    def test_dice(self):
        for value in range(1, 7):
            self.check(DICE, f"when = made 0 ask p 0 0 when 1 say = last {value} 0", 1, 1, 6)
            self.check(DICE, f"when = made 0 ask p 0 0 when 1 say < last {value} 0", 1, value - 1, 6)
        self.check(DICE, "when < made 2 ask p 0 last when 1 say = + kept last 7 0", 2, 1, 6)
        self.check(DICE, "when < made 2 ask p 0 last when 1 say = + kept last 3 0", 2, 2, 36)
        self.check(DICE, "when < made 3 ask p 0 + kept last when 1 say = + kept last 4 0", 3, 3, 216)

    def test_another_question_for_each_answer(self):
        game = "proc p 1 4 x draw x 4 answer x end proc r 4 64 x local y draw y 5 answer + * 10 x y end"
        self.check(game, "when = made 0 ask p 0 0 when = made 1 ask r last last when = kept 2 say = last 23 0", 2, 1, 20)
        self.check(game, "when = made 0 ask p 0 0 when = last 3 ask r 3 3 when = kept 3 say < last 32 0 when 1 say 1 0", 2,
                   Fraction(3, 4) + Fraction(1, 4) * Fraction(2, 5))

    def test_until_an_answer_comes(self):
        for calls in (0, 1, 2, 10, 60):
            self.check(COIN, "when last say 1 0 when 1 ask p 0 0", calls, 1 - Fraction(1, 2 ** calls))
            self.check(DICE, "when = last 6 say 1 0 when 1 ask p 0 0", calls, 1 - Fraction(5, 6) ** calls)

    def test_sixty_calls(self):
        begin = time.process_time()
        game = "var n 7 0 proc p 3 7 x local y draw y 3 set n + n + y x answer n end"
        expected = [Fraction(1)] + [Fraction(0)] * 6
        for made in range(60):
            expected = [sum([expected[(at - drawn - made % 3) % 7] for drawn in range(3)], Fraction(0)) / 3 for at in range(7)]
        for value in (0, 3, 6):
            self.check(game, f"when < made 60 ask p made 0 when 1 say = last {value} 0", 60, expected[value])
        ones = [Fraction(1)]
        for _ in range(60):
            ones = [sum(pair) / 2 for pair in zip([0, *ones], [*ones, 0])]
        self.check(COIN, "when < made 60 ask p 0 + kept last when 1 say = + kept last 30 0", 60, ones[30])
        self.check(COIN, "when < made 60 ask p 0 + kept last when 1 say < + kept last 30 0", 60, sum(ones[:30]))
        self.assertLess(time.process_time() - begin, 60)

    def test_many_rules(self):
        rules = " ".join([f"when = kept {at} ask p {at} {at + 1}" for at in range(19)])
        self.check(ECHO, rules + " when 1 say = last 18 0", 19, 1)
        self.check(ECHO, rules + " when 1 say = last 18 0", 18, 0)

    def test_random_tactics(self):
        between = 0
        for seed in range(150):
            game = Maker(seed).game(FACES)
            tactic = Tactic(PlayerMaker(seed, FACES).rules(4))
            for calls in (0, 1, 2):
                found = fraction(chance_of(game, tactic, calls))
                self.assertEqual(found, oracle.tactic_chance(game, tactic.rules, calls), (seed, calls))
                between += 0 < found < 1
        self.assertGreater(between, 20)


class TestRefused(unittest.TestCase):

    def refuse(self, game, tactic, calls):
        with self.assertRaises(BadPlayer) as caught:
            chance_of(read_game(game), read_tactic(tactic), calls)
        self.assertIs(type(caught.exception), BadPlayer)

    def test_procedures_that_there_are_not(self):
        for calls in (0, 1, 5):
            self.refuse(COIN, "when 1 ask r 0 0", calls)
            self.refuse(COIN, "when 0 ask r 0 0", calls)
            self.refuse(COIN, "when 1 say 1 0 when 0 ask x 0 0", calls)
            self.refuse(COIN, "when 1 ask p 0 0 when 1 ask pp 0 0 when 1 ask p 0 0", calls)
            self.refuse("", "when 1 ask p 0 0", calls)
            self.refuse("var r 1 0 table r 1 1 lots r 1 1 " + COIN, "when 0 ask r 0 0", calls)

    def test_ahead_of_too_large(self):
        for rules in ("when = made 0 ask p 0 0 when 0 ask s 0 0", "when 0 ask s 0 0 when 1 ask p 0 0"):
            self.refuse(HUGE, rules, 3)

    def test_too_large(self):
        for rules, calls in (("when 1 ask p 0 0", 1), ("when made ask p 0 0 when 1 ask r 0 0", 2)):
            with self.assertRaises(TooLarge) as caught:
                chance_of(read_game(HUGE), read_tactic(rules), calls)
            self.assertEqual(caught.exception.what, "ways")
        for rules, calls in (("when 1 ask p 0 0", 0), ("when made ask p 0 0 when 1 ask r 0 0", 1),
                             ("when = made 9 ask p 0 0 when 1 ask r 0 0", 5)):
            self.assertEqual(fraction(chance_of(read_game(HUGE), read_tactic(rules), calls)), 0)


if __name__ == "__main__":
    unittest.main()
