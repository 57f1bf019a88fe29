"""Point 13: the greatest gain, the greatest difference, and players that refute a claim."""

import copy
import unittest
from fractions import Fraction
from itertools import combinations

import oracle
from helpers import fraction
from random_games import Maker
from tellsnone.best import apart, best_player, refuting_player
from tellsnone.errors import BadPlayer, TooLarge
from tellsnone.game import read_game
from tellsnone.players import calls_of, chance, check_player
from tellsnone.ratio import Ratio

NO = ("say", False)
COIN = "proc p 1 2 x draw x 2 answer x end"
ONE = "proc p 1 2 x answer 1 end"
TWICE = "var n 9 0 var a 2 0 proc p 1 2 x draw x 2 set n + n 1 if = n 2 let x a else set a x end answer x end"
FUNCTION = "lots o {0} {1} proc p {0} {1} x local y lot y o x answer y end"
FRESH = "proc p {0} {1} x local y draw y {1} answer y end"
INJECTION = "table t 3 3 table r 3 2 proc p 3 3 x local y if has t x else draw y 3 if has r y draw y 2 " \
            "if has r y let y + y 1 end if has r y let y mod + y 1 3 end end put r y 1 put t x y end answer cell t x end"
HUGE = "proc p 1 2 x draw x 64 draw x 64 draw x 64 answer x end"
LOOKS = "var a 64 0 var n 3 0 proc p 1 64 x local y if = n 0 draw y 60 set a y else if = n 1 " \
        "if = a 0 draw y {} else draw y 49 end end end set n + n 1 answer y end"


def gain(first, second, player):
    return fraction(chance(first, player)) - fraction(chance(second, player))


class Case(unittest.TestCase):

    def check(self, first, second, calls, there, back=None):
        """Checks the greatest gains in both directions, the players that have them, and the greatest difference."""
        game, other = read_game(first), read_game(second)
        found = []
        for one, two, expected in ((game, other, there), (other, game, there if back is None else back)):
            most, player = best_player(one, two, calls)
            self.assertIs(type(most), Ratio)
            self.assertEqual(fraction(most), expected, (one.procs, calls))
            self.check_has(one, two, calls, player, most)
            found.append(fraction(most))
            self.assertEqual(fraction(apart(one, two, calls)), max(there, there if back is None else back))
        return found

    def check_has(self, first, second, calls, player, most):
        """Checks that a player fits both games, has few enough calls, and this gain."""
        check_player(first, player)
        check_player(second, player)
        self.assertLessEqual(calls_of(player), calls)
        self.assertEqual(gain(first, second, player), fraction(most))


class TestKnownGains(Case):

    def test_0_calls(self):
        for first, second in ((COIN, ONE), (COIN, COIN), ("", ""), (HUGE, COIN)):
            self.check(first, second, 0, 0)
            self.assertEqual(best_player(read_game(first), read_game(second), 0)[1][0], "say")

    def test_one_call(self):
        self.check(COIN, ONE, 1, Fraction(1, 2))
        self.check(COIN, COIN, 1, 0)
        self.check("proc p 1 2 x answer 0 end", ONE, 1, 1)
        self.check("proc p 1 6 x draw x 6 answer x end", "proc p 1 6 x draw x 4 answer x end", 1, Fraction(1, 3))
        self.check("proc p 1 6 x draw x 6 answer x end", "proc p 1 6 x draw x 4 answer + x 2 end", 1, Fraction(1, 3))

    def test_one_number_tells_more_than_the_others(self):
        first = "proc p 9 9 x local y draw y 2 answer + y x end"
        second = "proc p 9 9 x local y draw y 2 if = x 7 let y 0 end if = x 3 draw y 3 end answer + y x end"
        self.check(first, second, 1, Fraction(1, 2))
        most, player = best_player(read_game(first), read_game(second), 1)
        self.assertEqual((fraction(most), player[:3]), (Fraction(1, 2), ("ask", "p", 7)))

    def test_one_procedure_tells_more_than_the_others(self):
        first = "proc p 2 2 x draw x 2 answer x end proc r 2 2 x draw x 2 answer x end proc s 2 2 x draw x 2 answer x end"
        second = "proc p 2 2 x draw x 2 answer x end proc r 2 2 x draw x 3 answer x end proc s 2 2 x draw x 64 " \
                 "answer < x 31 end"
        self.check(first, second, 1, Fraction(1, 6))
        self.assertEqual(best_player(read_game(first), read_game(second), 1)[1][1], "r")

    def test_more_calls_tell_more(self):
        self.check(COIN, TWICE, 1, 0)
        self.check(COIN, TWICE, 2, Fraction(1, 2))
        self.check(COIN, TWICE, 3, Fraction(1, 2))
        for calls in range(9):
            self.check(COIN, ONE, calls, 1 - Fraction(1, 2 ** calls))
        late = "var n 99 0 proc p 1 2 x set n + n 1 answer = n {} end"
        for at in (1, 2, 8):
            for calls in (at - 1, at, 8):
                self.check(late.format(at), late.format(9), calls, int(calls >= at))
        self.check(late.format(9), late.format(10), 8, 0)

    def test_functions(self):
        for keys, values in ((2, 2), (2, 3), (3, 2)):
            self.check(FUNCTION.format(keys, values), FRESH.format(keys, values), 1, 0)
            self.check(FUNCTION.format(keys, values), FRESH.format(keys, values), 2, 1 - Fraction(1, values))

    def test_functions_and_injections(self):
        function = FUNCTION.format(3, 3)
        self.check(function, INJECTION, 1, 0)
        self.check(function, INJECTION, 2, Fraction(1, 3))
        self.check(function, INJECTION, 3, 1 - Fraction(2, 9))

    def test_the_gain_may_differ_between_answers(self):
        first = "proc p 1 4 x draw x 8 answer / x 2 end"
        second = "proc p 1 4 x draw x 8 if < x 3 let x 0 end answer / x 2 end"
        self.check(first, second, 1, Fraction(1, 8))

    def test_what_was_answered_decides_what_is_asked(self):
        first = "var a 9 0 proc p 1 3 x draw x 3 set a + x 1 answer x end proc r 4 2 x local y draw y 2 answer y end"
        second = first.replace("answer y", "if * x a if = x a let y 0 end end answer y")
        self.check(first, second, 1, 0)
        self.check(first, second, 2, Fraction(1, 2))
        player = best_player(read_game(first), read_game(second), 2)[1]
        self.assertEqual([(part[0], part[1][1:3]) for part in sorted(player[3])], [(0, ("r", 1)), (1, ("r", 2)), (2, ("r", 3))])

    def test_both_directions(self):
        for first, second in ((COIN, ONE), (COIN, TWICE), (FUNCTION.format(2, 2), FRESH.format(2, 2))):
            self.check(first, second, 2, fraction(apart(read_game(first), read_game(second), 2)))

    def test_procedures_that_tell_nothing(self):
        quiet = "var a 9 0 proc p 3 1 x local y draw y 4 set a + x y answer {} end"
        self.check(quiet.format("a"), quiet.format("0"), 3, 0)
        self.check("var a 9 0 proc p 3 4 x draw x 4 set a + a x answer 2 end", "proc p 3 4 x answer 2 end", 2, 0)

    def test_games_without_procedures(self):
        for calls in (0, 1, 8):
            self.check("", "var a 5 0 table t 2 2 lots o 2 2", calls, 0)

    def test_answers_that_cannot_come_in_the_second_game(self):
        self.check("proc p 1 9 x answer 3 end", "proc p 1 9 x answer 4 end", 1, 1)
        self.check("proc p 1 9 x draw x 4 answer x end", "proc p 1 9 x answer 4 end", 5, 1)

    def test_bad_alone_tells_nothing(self):
        self.check("proc p 1 2 x bad answer 1 end", ONE, 3, 0)
        self.check("proc p 1 2 x bad after let x 1 end answer x end", ONE, 3, 0)


class TestAgainstAllPlayers(Case):

    def test_random_games(self):
        some = set()
        for seed in range(60):
            maker = Maker(seed)
            faces, calls = maker.random.choice((((("p", 2, 2),), 2), ((("p", 1, 2), ("r", 1, 2)), 2), ((("p", 2, 3),), 1)))
            game, other = maker.game(faces), maker.game(faces)
            for first, second in ((game, other), (other, game)):
                most, player = best_player(first, second, calls)
                self.assertEqual(fraction(most), oracle.greatest_gain(first, second, calls), seed)
                self.check_has(first, second, calls, player, most)
                some.add(fraction(most))
        self.assertGreater(len(some), 10)

    def test_more_calls_never_tell_less(self):
        for seed in range(40):
            maker = Maker(seed)
            game, other = maker.game((("p", 2, 2),)), maker.game((("p", 2, 2),))
            gains = [fraction(apart(game, other, calls)) for calls in range(4)]
            self.assertEqual(gains, sorted(gains))


class TestFaces(unittest.TestCase):

    FACES = (
        (), (("p", 2, 3),), (("r", 2, 3),), (("p", 3, 3),), (("p", 2, 2),), (("p", 2, 3), ("r", 2, 3)),
        (("r", 2, 3), ("p", 2, 3)), (("p", 2, 3), ("r", 2, 3), ("s", 2, 3)),
    )

    def game(self, face, draws="draw x 2"):
        return read_game(" ".join([f"proc {name} {size} {answers} x {draws} answer x end" for name, size, answers in face]))

    def refused(self, game, other):
        for calls in (0, 1, 2, 8):
            with self.assertRaises(BadPlayer):
                best_player(game, other, calls)
            with self.assertRaises(BadPlayer):
                apart(game, other, calls)
            for claim in (-1, 0, 1, 2):
                with self.assertRaises(BadPlayer):
                    refuting_player(game, other, calls, Ratio(claim))

    def test_different_faces(self):
        for one, two in combinations(self.FACES, 2):
            self.refused(self.game(one), self.game(two))
            self.refused(self.game(two), self.game(one))

    def test_ahead_of_too_large(self):
        self.refused(self.game(self.FACES[1], "draw x 64 draw x 64 draw x 64"), self.game(self.FACES[2]))
        self.refused(self.game(self.FACES[2]), self.game(self.FACES[1], "draw x 64 draw x 64 draw x 64"))
        self.refused(read_game("proc p 64 64 x draw x 64 answer x end"), read_game("proc p 64 63 x draw x 64 answer x end"))

    def test_what_does_not_belong_to_the_face(self):
        game = read_game("proc p 2 3 x draw x 2 answer x end")
        other = read_game("var a 3 0 table t 2 2 lots o 2 2 proc p 2 3 y local z bad draw z 2 answer z end")
        self.assertEqual(apart(game, other, 2), Ratio(0))


class TestLooks(unittest.TestCase):

    def too_large(self, function, *arguments):
        with self.assertRaises(TooLarge) as caught:
            function(*arguments)
        return caught.exception.what

    def test_3000_and_3001(self):
        less, more = read_game(LOOKS.format(48)), read_game(LOOKS.format(49))
        self.assertEqual(fraction(best_player(less, more, 3)[0]), Fraction(1, 60) * Fraction(1, 49))
        self.assertEqual(self.too_large(best_player, more, less, 3), "looks")
        self.assertEqual(self.too_large(best_player, more, more, 3), "looks")
        self.assertEqual(self.too_large(apart, less, more, 3), "looks")
        self.assertEqual(self.too_large(apart, more, less, 3), "looks")
        self.assertEqual(fraction(apart(less, more, 2)), Fraction(1, 60) * Fraction(1, 49))

    def test_each_direction_has_looks_of_its_own(self):
        less = read_game(LOOKS.format(48))
        self.assertEqual(apart(less, less, 3), Ratio(0))
        self.assertIsNone(refuting_player(less, less, 3, Ratio(0)))

    def test_each_number_of_each_procedure(self):
        ten = "proc p 9 64 x draw x 29 answer x end proc r 1 64 x draw x {} answer x end"
        self.assertEqual(apart(read_game(ten.format(38)), read_game(ten.format(38)), 2), Ratio(0))
        self.assertEqual(self.too_large(apart, read_game(ten.format(39)), read_game(ten.format(39)), 2), "looks")
        self.assertEqual(self.too_large(best_player, read_game(ten.format(39)), read_game(ten.format(1)), 2), "looks")
        self.assertEqual(best_player(read_game(ten.format(1)), read_game(ten.format(39)), 2)[0], Ratio(1520, 1521))

    def test_answers_and_not_ways_are_counted(self):
        game = read_game("proc p 5 2 x draw x 64 answer x end")
        self.assertEqual(apart(game, game, 3), Ratio(0))
        self.assertEqual(self.too_large(apart, game, game, 4), "looks")
        game = read_game("var a 64 0 proc p 1 64 x draw x 64 set a x answer 0 end")
        self.assertEqual(apart(game, game, 2), Ratio(0))

    def test_answers_that_can_come_behind_the_answers_before(self):
        game = read_game(FUNCTION.format(1, 64))
        self.assertEqual(apart(game, game, 8), Ratio(0))
        fresh = read_game(FRESH.format(1, 64))
        self.assertEqual(self.too_large(best_player, fresh, game, 3), "looks")
        self.assertEqual(best_player(game, fresh, 3)[0], Ratio(4095, 4096))
        self.assertEqual(self.too_large(apart, game, fresh, 3), "looks")

    def test_eight_calls(self):
        two, three = read_game("proc p 1 2 x draw x 2 answer x end"), read_game("proc p 1 3 x draw x 3 answer x end")
        self.assertEqual(apart(two, two, 8), Ratio(0))
        self.assertEqual(apart(three, three, 7), Ratio(0))
        self.assertEqual(self.too_large(apart, three, three, 8), "looks")
        many = read_game("proc p 64 64 x draw x 64 answer x end")
        self.assertEqual(self.too_large(apart, many, many, 8), "looks")
        self.assertEqual(self.too_large(refuting_player, many, many, 2, Ratio(0)), "looks")

    def test_too_many_ways(self):
        huge, coin = read_game(HUGE), read_game(COIN)
        for game, other in ((huge, coin), (coin, huge), (huge, huge)):
            for calls in (1, 2, 8):
                self.assertEqual(self.too_large(best_player, game, other, calls), "ways")
                self.assertEqual(self.too_large(apart, game, other, calls), "ways")
                self.assertEqual(self.too_large(refuting_player, game, other, calls, Ratio(0)), "ways")
            self.assertEqual(apart(game, other, 0), Ratio(0))
            self.assertIsNone(refuting_player(game, other, 0, Ratio(0)))

    def test_too_many_ways_that_come_late(self):
        late = "var n 9 0 proc p 1 2 x set n + n 1 if = n 3 draw x 64 draw x 64 draw x 2 end answer x end"
        game = read_game(late)
        self.assertEqual(apart(game, game, 2), Ratio(0))
        self.assertEqual(self.too_large(apart, game, game, 3), "ways")


class TestRefutingPlayer(Case):

    def check_refutes(self, first, second, calls, claim):
        game, other = read_game(first), read_game(second)
        for one, two in ((game, other), (other, game)):
            player = refuting_player(one, two, calls, Ratio(claim.numerator, claim.denominator))
            self.assertIsNotNone(player)
            check_player(one, player)
            check_player(two, player)
            self.assertLessEqual(calls_of(player), calls)
            self.assertGreater(abs(gain(one, two, player)), claim)

    def check_none(self, first, second, calls, claim):
        game, other = read_game(first), read_game(second)
        for one, two in ((game, other), (other, game)):
            self.assertIsNone(refuting_player(one, two, calls, Ratio(claim.numerator, claim.denominator)))

    def test_around_the_greatest_difference(self):
        for first, second, calls, most in ((COIN, ONE, 1, Fraction(1, 2)), (COIN, ONE, 3, Fraction(7, 8)),
                                           (COIN, TWICE, 2, Fraction(1, 2)),
                                           (FUNCTION.format(3, 3), INJECTION, 2, Fraction(1, 3))):
            self.assertEqual(fraction(apart(read_game(first), read_game(second), calls)), most)
            for claim in (Fraction(-5), Fraction(-1, 10 ** 9), Fraction(0), most / 2, most - Fraction(1, 10 ** 9)):
                self.check_refutes(first, second, calls, claim)
            for claim in (most, most + Fraction(1, 10 ** 9), Fraction(1), Fraction(7)):
                self.check_none(first, second, calls, claim)

    def test_games_that_nobody_can_tell_apart(self):
        for calls in (0, 1, 3):
            self.check_none(COIN, COIN, calls, Fraction(0))
            self.check_none(COIN, COIN, calls, Fraction(1, 10 ** 9))
            self.check_refutes(COIN, COIN, calls, Fraction(-1, 10 ** 9))
        self.check_refutes(COIN, ONE, 0, Fraction(-1))
        self.check_none(COIN, ONE, 0, Fraction(0))

    def test_random_games(self):
        for seed in range(60):
            maker = Maker(seed)
            game, other = maker.game((("p", 2, 3),)), maker.game((("p", 2, 3),))
            most = apart(game, other, 2)
            self.assertIsNone(refuting_player(game, other, 2, most))
            player = refuting_player(game, other, 2, most - Ratio(1, 10 ** 6))
            self.assertEqual(abs(gain(game, other, player)), fraction(most))
            self.assertLessEqual(calls_of(player), 2)


class TestArguments(unittest.TestCase):

    def test_arguments_stay_as_they_were(self):
        game, other, claim = read_game(COIN), read_game(TWICE), Ratio(1, 4)
        before = copy.deepcopy((vars(game), vars(other), vars(claim)))
        best_player(game=game, other=other, calls=2)
        apart(game=game, other=other, calls=2)
        refuting_player(game=game, other=other, calls=2, claim=claim)
        self.assertEqual((vars(game), vars(other), vars(claim)), before)

    def test_kinds(self):
        found = best_player(read_game(COIN), read_game(ONE), 2)
        self.assertEqual([type(found), type(found[0]), type(found[1])], [tuple, Ratio, tuple])
        self.assertIs(type(apart(read_game(COIN), read_game(ONE), 2)), Ratio)


if __name__ == "__main__":
    unittest.main()
