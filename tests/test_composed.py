"""Points 9 and 20 together, and points 12, 18 and 19 together: what comes of calls, by a second way to run games."""

import unittest
from fractions import Fraction

import oracle
from helpers import fraction
from random_games import ContextMaker, Maker, PlayerMaker
from tellsnone.best import best_player
from tellsnone.contexts import asks, compose
from tellsnone.errors import TooLarge
from tellsnone.game import Game, read_game
from tellsnone.players import chance
from tellsnone.running import Runner, first_state
from tellsnone.until import alike, counted

FACES = (("p", 3, 4), ("r", 2, 3))
AROUND = (("c", 2, 3), ("p", 3, 3))
COUNTING = (
    "proc p 2 9 x {} answer x end "
    "proc r 2 9 x draw x 3 if has t x bad end put t x 0 {} answer x end "
    "proc s 2 9 x local y draw y 2 if = y x put t 0 0 bad end {} draw y 4 if has v y bad end put v x 1 put v y 0 "
    "answer y end"
)


def split(context, state):
    """The state of a composed game as the states of the context and of the game."""
    values, tables, lots, bad = state
    many = (len(context.variables), len(context.tables), len(context.lots))
    return ((values[:many[0]], tables[:many[1]], lots[:many[2]], False),
            (values[many[0]:], tables[many[1]:], lots[many[2]:], bad))


def gathered(found):
    """Ends with their chances, each end once."""
    ends = {}
    for end, answer, share in found:
        ends[end, answer] = ends.get((end, answer), 0) + share
    return ends


class TestRuns(unittest.TestCase):

    def check(self, context, game, numbers, breadth):
        """Follows calls from the beginning on, and compares what comes of each of them."""
        whole = compose(context, game)
        runner = Runner(whole)
        states = [first_state(whole)]
        self.assertEqual(split(context, states[0]), (oracle.beginning(context), oracle.beginning(game)))
        for number in numbers:
            new = []
            for state in states:
                for name, *_ in context.procs:
                    try:
                        ends = runner.ends(state, name, number)
                    except TooLarge:
                        continue
                    found = {(split(context, end), answer): fraction(share) for end, answer, share in ends}
                    self.assertEqual(len(found), len(ends))
                    pair = split(context, state)
                    self.assertEqual(found, gathered(oracle.ways_around(context, game, pair, name, number)))
                    new.extend([end for end, _, _ in ends])
            states = new[::max(1, len(new) // breadth)][:breadth]

    def test_random_contexts_and_games(self):
        asked = 0
        for seed in range(60):
            context = ContextMaker(seed, FACES).game(AROUND)
            game = Maker(seed + 1000).game(FACES)
            if asks(context) > 3:
                continue
            asked += asks(context) > 1
            with self.subTest(seed):
                self.check(context, game, (seed, 1, 2), 3)
        self.assertGreater(asked, 12)

    def test_locals_are_0_at_the_beginning_of_each_ask(self):
        game = read_game("proc p 9 9 x local y let y + y 1 let x + x y answer x end")
        context = read_game("proc c 1 64 u local v ask v p 0 ask u p v ask u p u answer u end", ("p",))
        self.check(context, game, (0, 0), 1)
        whole = compose(context, game)
        ((_, answer, _),) = Runner(whole).ends(first_state(whole), "c", 0)
        self.assertEqual(answer, 3)

    def test_lots_and_variables_stay_from_one_ask_to_the_next(self):
        game = read_game("var n 9 0 lots o 3 5 proc p 3 64 x set n + n 1 lot x o x answer + * 10 n x end")
        context = read_game("var k 64 0 proc c 3 64 u local v ask v p u ask u p u set k + k 1 "
                            "answer = mod u 10 mod v 10 end proc d 1 64 u ask u p 7 answer u end", ("p",))
        self.check(context, game, (0, 1, 0), 6)

    def test_bad_stays(self):
        game = read_game("proc p 2 2 x let x 0 after let x 1 end bad answer x end")
        context = read_game("proc c 2 4 u local v ask v p 0 ask u p 0 answer + v * 2 u end", ("p",))
        self.check(context, game, (0, 1), 2)

    def test_numbers_and_answers_beyond_the_sizes(self):
        game = read_game("proc p 5 3 x answer + x x end")
        context = read_game("proc c 64 64 u local v ask v p * u u ask u p + v 63 answer + * 10 v u end", ("p",))
        for number in range(0, 70, 7):
            self.check(context, game, (number,), 1)

    def test_a_context_asks_only_in_the_part_that_runs(self):
        game = read_game("var n 9 0 proc p 1 9 x set n + n 1 draw x 2 answer + x * 2 n end")
        context = read_game("proc c 3 9 u if = u 1 ask u p 0 else if u ask u p 0 ask u p 0 end end answer u end", ("p",))
        self.check(context, game, (0, 1, 2), 9)


class TestCounts(unittest.TestCase):

    def check(self, first, second, calls):
        """Checks that no player tells alike games apart by more than the count."""
        self.assertTrue(alike(first, second))
        bound = counted(first)
        self.assertTrue(bound == counted(second))
        found = []
        for many in range(calls + 1):
            for one, other in ((first, second), (second, first)):
                gain, player = best_player(one, other, many)
                most = oracle.chance(one, player) - oracle.chance(other, player)
                self.assertEqual(fraction(gain), most)
                self.assertLessEqual(most, fraction(bound.at(many)), (many, player))
            found.append((most, fraction(bound.at(many))))
        return found

    def test_where_it_is_reached(self):
        first = read_game("proc p 1 2 x draw x 5 if = x 3 bad end let x 0 after let x 1 end answer x end")
        second = read_game("proc p 1 2 x draw x 5 if = x 3 bad end let x 0 after end answer x end")
        found = self.check(first, second, 3)
        self.assertEqual(found, [(0, 0), (Fraction(1, 5), Fraction(1, 5)), (Fraction(9, 25), Fraction(2, 5)),
                                 (Fraction(61, 125), Fraction(3, 5))])

    def test_a_table_that_fills(self):
        text = "table t 7 1 proc p 1 2 x draw x 7 if has t x bad end put t x 0 let x 0 {} answer x end"
        found = self.check(read_game(text.format("after let x 1 end")), read_game(text.format("after end")), 4)
        self.assertEqual(found[1], (0, 0))
        self.assertEqual(found[2], (Fraction(1, 7), Fraction(1, 7)))
        self.assertEqual(found[3], (Fraction(19, 49), Fraction(3, 7)))

    def test_known_games(self):
        rows = "table t 3 2 table v 4 2 "
        parts = ("after let x 0 end", "after set a 1 end", "after end", "after draw x 3 put v 0 0 end",
                 "after if x let x 8 else put t 1 1 end end")
        for one in parts[:3]:
            for other in parts[2:]:
                blocks = [part if "a 1" not in part else "after let x 5 end" for part in (one, other)]
                games = [read_game(rows + COUNTING.format(block, block, block)) for block in blocks]
                self.check(*games, 2)

    def test_random_blocks_within_after(self):
        for seed in range(25):
            games = []
            for each in (seed, seed + 500):
                maker = Maker(each)
                blocks = [maker.block(("x", "y"), 3, 1) for _ in range(3)]
                games.append(self.game_with(blocks))
            self.check(*games, 2)

    def game_with(self, blocks):
        """A game with a count, and these blocks within `after`."""
        text = "var a 3 0 var b 9 0 table t 3 2 table s 4 2 lots o 2 2 lots u 3 3 " \
               "proc p 2 4 x local y put t x 1 draw y 3 if has t y bad end after end answer + x y end " \
               "proc r 2 4 x local y draw y 5 if = y a bad set a 2 end set a 1 after end put s x 0 put s y 0 answer y end " \
               "proc s 2 4 x local y draw y 4 if has s y bad end after end answer y end"
        game = read_game(text)
        procs = []
        for (*parts, block, result), inner in zip(game.procs, blocks):
            new = tuple([("after", inner) if part == ("after", ()) else part for part in block])
            procs.append((*parts, new, result))
        return Game(game.variables, game.tables, game.lots, tuple(procs))

    def test_random_players(self):
        for seed in range(30):
            games = [self.game_with([Maker(each * 100 + at).block(("x", "y"), 3, 1) for at in range(3)])
                     for each in (seed, seed + 500)]
            player = PlayerMaker(seed, (("p", 2, 4), ("r", 2, 4), ("s", 2, 4))).player(3)
            bound = counted(games[0])
            chances = [fraction(chance(game, player)) for game in games]
            self.assertLessEqual(abs(chances[0] - chances[1]), fraction(bound.at(3)))


if __name__ == "__main__":
    unittest.main()
