"""Point 10: the form of states, the ends of a call, and too many ways."""

import copy
import unittest
from fractions import Fraction

import oracle
from helpers import begun, fraction, only_end, shares
from random_games import Maker
from tellsnone.errors import TooLarge
from tellsnone.ratio import Ratio
from tellsnone.running import Runner, first_state

FACES = (("p", 3, 4), ("r", 2, 3))


def many_ends(text, number=0):
    """How many ends the call of `p` has, or what there is too much of."""
    _, runner, state = begun(text)
    try:
        return len(runner.ends(state, "p", number))
    except TooLarge as error:
        return error.what


class TestStates(unittest.TestCase):

    def test_rows_are_in_ascending_order(self):
        for keys in ((0, 1, 2), (2, 1, 0), (1, 2, 0), (2, 0, 1), (11, 9, 10)):
            text = "table t 64 9 proc p 1 1 x " + " ".join([f"put t {key} 5" for key in keys]) + " answer 0 end"
            self.assertEqual(only_end(text)[0][1], (tuple([(key, 5) for key in sorted(keys)]),))
            text = "lots o 64 1 proc p 1 1 x " + " ".join([f"lot x o {key}" for key in keys]) + " answer 0 end"
            self.assertEqual(only_end(text)[0][2], (tuple([(key, 0) for key in sorted(keys)]),))

    def test_rows_of_several_calls(self):
        _, runner, state = begun("table t 64 64 proc p 64 1 x put t x + x 1 answer 0 end")
        for number in (40, 7, 63, 0, 9, 7, 100):
            ((state, _, _),) = runner.ends(state, "p", number)
        self.assertEqual(state, ((), (((0, 1), (7, 8), (9, 10), (36, 37), (40, 41), (63, 64 % 64)),), (), False))

    def test_the_order_of_writing_makes_no_state(self):
        text = "table t 2 2 proc p 1 1 x draw x 2 put t x 1 put t - 1 x 1 answer 0 end"
        self.assertEqual(only_end(text)[0][1], (((0, 1), (1, 1)),))

    def test_all_parts(self):
        text = "var a 9 3 var b 9 4 table t 4 5 table s 1 1 lots o 1 1 lots u 4 1 proc p 1 1 x " \
               "set b 7 put s 0 0 lot x u 2 bad answer 0 end"
        self.assertEqual(only_end(text)[0], ((3, 7), ((), ((0, 0),)), ((), ((2, 0),)), True))

    def test_kinds(self):
        _, runner, state = begun("var a 9 3 table t 4 5 lots o 2 2 proc p 1 1 x if 1 bad end put t 1 1 lot x o 0 answer x end")
        for end in runner.ends(state, "p", 0):
            self.assertEqual([type(part) for part in end], [tuple, int, Ratio])
            self.assertEqual([type(part) for part in end[0]], [tuple, tuple, tuple, bool])
            self.assertEqual(end[0][1], (((1, 1),),))
            self.assertEqual(type(end[0][1][0][0]), tuple)
            hash(end[0])


class TestEnds(unittest.TestCase):

    def test_a_list_of_triples(self):
        _, runner, state = begun("proc p 1 2 x draw x 2 answer x end")
        found = runner.ends(state, "p", 0)
        self.assertIs(type(found), list)
        self.assertEqual([(type(end), len(end)) for end in found], [(tuple, 3)] * 2)

    def test_each_pair_comes_once(self):
        _, runner, state = begun("var a 2 0 proc p 1 2 x draw x 6 set a < x 2 answer = x 0 end")
        self.assertEqual(shares(runner.ends(state, "p", 0)), {
            (((1,), (), (), False), 1): Fraction(1, 6), (((1,), (), (), False), 0): Fraction(1, 6),
            (((0,), (), (), False), 0): Fraction(2, 3)})

    def test_ways_of_different_chances(self):
        _, runner, state = begun("proc p 1 2 x local y draw x 3 if = x 1 draw y 4 end if = x 2 draw y 5 end answer = y 0 end")
        there = Fraction(1, 3) + Fraction(1, 12) + Fraction(1, 15)
        self.assertEqual(shares(runner.ends(state, "p", 0)), {(state, 1): there, (state, 0): 1 - there})

    def test_chances_are_in_lowest_terms(self):
        _, runner, state = begun("proc p 1 2 x draw x 6 answer < x 2 end")
        found = {answer: (share.num, share.den) for _, answer, share in runner.ends(state, "p", 0)}
        self.assertEqual(found, {0: (2, 3), 1: (1, 3)})

    def test_a_state_that_is_the_same_with_another_answer(self):
        _, runner, state = begun("proc p 1 4 x draw x 4 answer x end")
        self.assertEqual(shares(runner.ends(state, "p", 0)), {(state, answer): Fraction(1, 4) for answer in range(4)})

    def test_a_list_that_is_changed(self):
        _, runner, state = begun("var a 3 0 proc p 3 2 x draw x 2 set a x answer x end")
        expected = shares(runner.ends(state, "p", 0))
        for _ in range(3):
            found = runner.ends(state, "p", 0)
            self.assertEqual(shares(found), expected)
            found.append("more")
            del found[0]
            found.reverse()
            self.assertEqual(shares(runner.ends(state, "p", 3)), expected)
            runner.ends(state, "p", 3).clear()

    def test_arguments_stay_as_they_were(self):
        game = Maker(5).game(FACES)
        before = copy.deepcopy(vars(game))
        runner, state = Runner(game), first_state(game)
        kept = copy.deepcopy(state)
        for end in runner.ends(state, "p", 0):
            runner.ends(end[0], "r", 1)
        self.assertEqual((vars(game), state), (before, kept))

    def test_runners_of_different_games_do_not_mix(self):
        _, one, state = begun("proc p 1 4 x answer 1 end")
        _, two, _ = begun("proc p 1 4 x answer 2 end")
        self.assertEqual([one.ends(state, "p", 0)[0][1], two.ends(state, "p", 0)[0][1]], [1, 2])
        self.assertEqual(one.ends(state, "p", 0)[0][1], 1)


class TestManyWays(unittest.TestCase):

    def test_4096_ways(self):
        _, runner, state = begun("proc p 1 1 x local y draw x 64 draw y 64 answer 0 end")
        self.assertEqual(shares(runner.ends(state, "p", 0)), {(state, 0): 1})
        self.assertEqual(many_ends("var a 64 0 var b 64 0 proc p 1 1 x draw x 64 set a x draw x 64 set b x answer 0 end"), 4096)

    def test_5000_ways(self):
        self.assertEqual(many_ends("proc p 1 1 x draw x 50 draw x 50 draw x 2 answer 0 end"), 1)
        self.assertEqual(many_ends("proc p 1 1 x draw x 2 draw x 50 draw x 50 answer 0 end"), 1)

    def test_one_way_more(self):
        text = "proc p 1 1 x local y local z draw y 50 draw z 50 if + y z draw x 2 else draw x {} end answer 0 end"
        self.assertEqual(many_ends(text.format(1)), 1)
        self.assertEqual(many_ends(text.format(2)), 1)
        self.assertEqual(many_ends(text.format(3)), "ways")
        text = "lots o 3 50 proc p 1 1 x local y local z lot y o 0 lot z o 1 if + y z draw x 2 else draw x {} end answer 0 end"
        self.assertEqual([many_ends(text.format(many)) for many in (2, 3)], [5000 // 2, "ways"])
        text = "lots o 3 2 lots u 1 3 proc p 1 1 x local y local z draw y 50 draw z 50 " \
               "if + y z lot x o 0 else lot x {} 0 end answer 0 end"
        self.assertEqual([many_ends(text.format(name)) for name in "ou"], [2, "ways"])

    def test_far_too_many(self):
        for text in ("draw x 64 draw x 64 draw x 64", "draw x 64 draw x 64 draw x 2", " ".join(["draw x 64"] * 40)):
            self.assertEqual(many_ends(f"proc p 1 1 x {text} answer 0 end"), "ways")

    def test_draws_with_one_result(self):
        self.assertEqual(many_ends("proc p 1 1 x local y " + "draw y 1 " * 6000 + "answer y end"), 1)
        self.assertEqual(many_ends("proc p 1 1 x draw x 50 draw x 1 draw x 50 draw x 1 draw x 2 draw x 1 answer 0 end"), 1)

    def test_ways_within_parts(self):
        deep = "draw x 50 draw x 50 draw x 2"
        self.assertEqual(many_ends(f"proc p 2 1 x if x {deep} else {deep} end answer 0 end"), 1)
        self.assertEqual(many_ends(f"proc p 2 1 x draw x 2 if x {deep} else {deep} end answer 0 end"), "ways")
        self.assertEqual(many_ends(f"proc p 2 1 x draw x 2 if x draw x 50 draw x 50 else draw x 50 draw x 50 end answer 0 end"), 1)
        self.assertEqual(many_ends(f"proc p 2 1 x draw x 2 after {deep} draw x 2 end answer 0 end"), 1)
        self.assertEqual(many_ends(f"proc p 2 1 x bad draw x 2 after {deep} end answer 0 end"), "ways")
        self.assertEqual(many_ends(f"proc p 2 1 x if x {deep} draw x 2 end answer 0 end", 0), 1)
        self.assertEqual(many_ends(f"proc p 2 1 x if x {deep} draw x 2 end answer 0 end", 1), "ways")

    def test_lots_that_are_looked_at_for_the_first_time(self):
        self.assertEqual(many_ends("lots o 3 64 proc p 1 1 x lot x o 0 lot x o 1 answer 0 end"), 4096)
        self.assertEqual(many_ends("lots o 3 64 proc p 1 1 x lot x o 0 lot x o 1 lot x o 2 answer 0 end"), "ways")
        self.assertEqual(many_ends("lots o 3 64 proc p 1 1 x lot x o 0 lot x o 1 draw x 2 answer 0 end"), "ways")
        again = " ".join(["lot x o 0", "lot x o 1"] * 20)
        self.assertEqual(many_ends(f"lots o 3 64 proc p 1 1 x {again} answer 0 end"), 4096)
        self.assertEqual(many_ends("lots o 60 1 proc p 1 1 x " + " ".join([f"lot x o {key}" for key in range(60)])
                                   + " answer 0 end"), 1)

    def test_lots_that_have_been_looked_at_earlier(self):
        text = "lots o 3 64 proc p 3 1 x local y if < x 2 lot y o x else lot y o 0 lot y o 1 lot y o 2 end answer 0 end"
        _, runner, state = begun(text)
        with self.assertRaises(TooLarge):
            runner.ends(state, "p", 2)
        later = runner.ends(state, "p", 0)[0][0]
        self.assertEqual(len(runner.ends(later, "p", 2)), 4096)
        last = runner.ends(later, "p", 1)[-1][0]
        self.assertEqual(len(runner.ends(last, "p", 2)), 64)
        with self.assertRaises(TooLarge) as caught:
            runner.ends(state, "p", 2)
        self.assertEqual(caught.exception.what, "ways")

    def test_ways_are_counted_for_each_call(self):
        _, runner, state = begun("var a 64 0 proc p 1 1 x local y draw y 64 draw x 64 set a x answer 0 end")
        for _ in range(4):
            found = runner.ends(state, "p", 0)
            self.assertEqual(len(found), 64)
            state = found[-1][0]

    def test_a_runner_goes_on_behind_too_many_ways(self):
        _, runner, state = begun("proc p 2 2 x if x draw x 64 draw x 64 draw x 64 end answer x end")
        for _ in range(2):
            with self.assertRaises(TooLarge):
                runner.ends(state, "p", 1)
            self.assertEqual(shares(runner.ends(state, "p", 0)), {(state, 0): 1})

    def test_more_ends_than_are_kept(self):
        _, runner, state = begun("var a 64 0 var b 64 0 proc p 64 2 x local y draw y 64 set a y draw y 64 set b y answer = y x end")
        for number in range(30):
            found = runner.ends(state, "p", number)
            self.assertEqual(len(found), 4096)
            self.assertEqual({end[0][0][1] for end in found if end[1]}, {number})


class TestAgainstTheOracle(unittest.TestCase):

    def expected(self, game, state, procedure, number):
        found = {}
        for end, answer, share in oracle.ways(game, state, procedure, number):
            found[end, answer] = found.get((end, answer), 0) + share
        return found

    def test_random_games(self):
        bad = 0
        for seed in range(400):
            maker = Maker(seed)
            game = maker.game(FACES)
            runner, states = Runner(game), [first_state(game)]
            self.assertEqual(states[0], oracle.beginning(game))
            for _ in range(4):
                state = states.pop(maker.random.randrange(len(states)))
                procedure, number = maker.random.choice("pr"), maker.random.randrange(6)
                found = shares(runner.ends(state, procedure, number))
                self.assertEqual(found, self.expected(game, state, procedure, number), seed)
                self.assertEqual(sum(found.values()), 1)
                states = list(dict.fromkeys([end[0] for end in found]))
                bad += any(end[3] for end in states)
        self.assertGreater(bad, 100)

    def test_chances_add_up_to_1_and_none_is_0(self):
        for seed in range(50):
            game = Maker(seed).game(FACES)
            for end in Runner(game).ends(first_state(game), "p", 1):
                self.assertGreater(fraction(end[2]), 0)
            self.assertEqual(sum(shares(Runner(game).ends(first_state(game), "p", 1)).values()), 1)


if __name__ == "__main__":
    unittest.main()
