"""Point 21: whatever derivation there is, no player tells its first and its last game apart by more than the bound."""

import unittest
from fractions import Fraction
from random import Random

import oracle
from helpers import fraction
from random_games import ContextMaker, Maker, PlayerMaker
from tellsnone.best import apart
from tellsnone.contexts import asks, compose
from tellsnone.derivation import Derivation
from tellsnone.errors import BadStep, BadText, TooLarge
from tellsnone.game import Game, game_text, read_game
from tellsnone.players import chance
from tellsnone.tactics import Tactic, chance_of

FACES = (("p", 2, 3), ("r", 2, 2))
AROUND = (("c", 2, 3), ("p", 1, 2))
EASY = ("fold", "swap", "drop", "toss", "shift", "sink", "erase", "spell", "back", "until", "reckon")


class QuietMaker(Maker):
    """Makes games in which bad comes only where it can be counted."""

    words = ("set", "let", "draw", "put", "lot", "lot", "if", "if", "after", "let")

    def guarded(self):
        """A draw and an `if` with bad in it."""
        local = self.random.choice(("x", "y", "z"))
        name, many = self.random.choice((("t", 2), ("s", 3)))
        test = ("has", name, ("local", local))
        if self.random.randrange(3) == 0:
            many, test = 4, ("=", ("local", local), ("variable", "a"))
        bad = ("bad",)
        if self.random.randrange(3) == 0:
            bad = ("if", self.expression(("x", "y", "z"), 1), *self.random.choice((((bad,), ()), ((), (bad,)))))
        return (("draw", local, many), ("if", test, (bad, *self.block(("x", "y"), 1, 0)), ()))

    def proc(self, face):
        *parts, block, result = super().proc(face)
        if self.random.randrange(2):
            at = self.random.randint(0, len(block))
            block = (*block[:at], *self.guarded(), ("after", self.block(("x", "y"), 2, 1)), *block[at:])
        many = self.random.choice((2, 3, 4))
        shift = (("draw", "z", many), ("let", "z", ("mod", ("+", ("local", "z"), ("local", "x")), ("number", many))))
        if self.random.randrange(2):
            block = (*block, *shift)
        if self.random.randrange(2):
            inner = [self.block(("x", "y"), 2, 1) for _ in range(2)]
            block = (*block, ("draw", "y", 3), ("if", ("has", "t", ("local", "x")), *inner))
        return (*parts, (*block, ("set", "e", self.expression(("x", "y", "z"), 1))), result)

    def game(self, faces):
        """A game that also has a variable that nothing reads."""
        game = super().game(faces)
        return Game((*game.variables, ("e", 4, 1)), game.tables, game.lots, game.procs)


class Walk:
    """A derivation by steps that are made by chance."""

    def __init__(self, seed, game):
        self.random = Random(seed)
        self.maker = QuietMaker(seed + 7000)
        self.derivation = Derivation(game)
        self.taken = []
        self.drafts = []

    def change(self, name, change):
        """The game now with other statements in a procedure."""
        game = self.derivation.last
        procs = [(*proc[:4], tuple(change(list(proc[4]))), proc[5]) if proc[0] == name else proc for proc in game.procs]
        return Game(game.variables, game.tables, game.lots, tuple(procs))

    def quieted(self, block):
        """Statements with other ones within `after`."""
        found = []
        for statement in block:
            if statement[0] == "after":
                statement = ("after", self.maker.block(("x", "y"), 2, 1))
            elif statement[0] == "if":
                statement = (*statement[:2], self.quieted(statement[2]), self.quieted(statement[3]))
            found.append(statement)
        return tuple(found)

    def back(self, name, k):
        """A step back: something is put in that a rule takes away."""
        local = self.random.choice(("y", "z"))
        value = self.maker.expression(("x", "y", "z"), 1)
        new, rule = self.random.choice([
            ([("let", local, value)], ("drop", name, k)), ([("draw", local, 3)], ("drop", name, k)),
            ([("if", value, (), ())], ("fold",)), ([("if", ("number", 0), (("bad",),), ())], ("fold",)),
            ([("if", value, (("let", local, value),), (("let", local, value),))], None),
        ])
        if rule is None:
            other = self.change(name, lambda block: block[:k] + [("let", local, value)] + block[k:])
            return ("back", other, ("drop", name, k))
        return ("back", self.change(name, lambda block: block[:k] + new + block[k:]), rule)

    def swap_back(self, name, k):
        """A step back by an exchange."""
        return ("back", self.change(name, lambda block: block[:k] + block[k:k + 2][::-1] + block[k + 2:]), ("swap", name, k))

    def draft(self, rule):
        """A step that may hold."""
        game = self.derivation.last
        name = self.random.choice(game.procs)[0]
        k = self.random.randint(0, len(game.proc(name)[4]))
        if rule in ("swap", "drop", "shift", "sink"):
            return (rule, name, k)
        if rule == "toss":
            return (rule, name, k, self.random.choice(("v", "w", "x")), self.random.randint(1, 3))
        if rule == "erase":
            return (rule, *self.random.choice((("variable", "a"), ("variable", "e"), ("table", "t"), ("table", "s"))))
        if rule == "spell":
            return (rule, self.random.choice(("o", "u")))
        if rule == "back":
            return self.random.choice((self.back, self.swap_back))(name, k)
        if rule == "until":
            other = Game(game.variables, game.tables, game.lots,
                         tuple([(*proc[:4], self.quieted(proc[4]), proc[5]) for proc in game.procs]))
            return (rule, other)
        if rule == "reckon":
            return (rule, self.maker.game([proc[:3] for proc in game.procs]), self.random.choice((0, 1, 2)))
        return (rule,)

    def go(self, rules):
        for rule in rules:
            step = self.draft(rule)
            self.drafts.append(rule)
            if len(step) > 1 and isinstance(step[1], Game) and not can_be_written(step[1]):
                continue
            try:
                self.derivation.step(step)
            except (BadStep, TooLarge):
                continue
            self.taken.append(rule)

    def any_rules(self, most):
        """Rules by chance; a reckon makes the bound so large that not many of them tell much."""
        return self.random.choices(EASY, weights=[6 if rule != "reckon" else 1 for rule in EASY], k=most)


def can_be_written(game):
    """Whether a game is one that a text can write; else it may name what it does not have."""
    try:
        return read_game(game_text(game)) == game
    except BadText:
        return False


class Case(unittest.TestCase):

    def check(self, derivation, faces, seed):
        """Checks players and tactics of one call by a second way to run games."""
        first, last, limit = derivation.first, derivation.last, fraction(derivation.bound.at(1))
        maker = PlayerMaker(seed, faces)
        for _ in range(3):
            player, tactic = maker.player(1), Tactic(maker.rules(3))
            found = abs(oracle.chance(first, player) - oracle.chance(last, player))
            self.assertLessEqual(found, limit, (seed, player))
            found = abs(oracle.tactic_chance(first, tactic.rules, 1) - oracle.tactic_chance(last, tactic.rules, 1))
            self.assertLessEqual(found, limit, (seed, tactic.rules))

    def check_by_chance(self, derivation, faces, seed):
        """Checks some of two calls by the program's own chances, which are compared with the second way elsewhere."""
        maker = PlayerMaker(seed, faces)
        player, tactic = maker.player(2), Tactic(maker.rules(3))
        for tell in (lambda game: chance(game, player), lambda game: chance_of(game, tactic, 2)):
            try:
                found = abs(fraction(tell(derivation.first)) - fraction(tell(derivation.last)))
            except TooLarge:
                continue
            self.assertLessEqual(found, fraction(derivation.bound.at(2)), seed)


class TestRandomDerivations(Case):

    def test_derivations(self):
        taken = {}
        for seed in range(50):
            walk = Walk(seed, QuietMaker(seed).game(FACES))
            walk.go(walk.any_rules(40))
            for rule in walk.taken:
                taken[rule] = taken.get(rule, 0) + 1
            self.check(walk.derivation, FACES, seed)
            self.check_by_chance(walk.derivation, FACES, seed)
            try:
                most = fraction(apart(walk.derivation.first, walk.derivation.last, 1))
            except TooLarge:
                continue
            self.assertLessEqual(most, fraction(walk.derivation.bound.at(1)), seed)
        for rule in EASY:
            self.assertGreater(taken.get(rule, 0), 4, taken)

    def test_each_step_by_itself(self):
        taken = {}
        for rule in EASY:
            for seed in range(20):
                walk = Walk(seed, QuietMaker(seed + 300).game(FACES))
                while not walk.taken and len(walk.drafts) < 20:
                    walk.go([rule])
                taken[rule] = taken.get(rule, 0) + len(walk.taken)
                if walk.taken:
                    self.check(walk.derivation, FACES, seed)
                    self.check_by_chance(walk.derivation, FACES, seed)
        self.assertGreater(min(taken.values()), 2, taken)

    def test_contexts(self):
        steps = 0
        for seed in range(60):
            context = ContextMaker(seed, FACES).game(AROUND)
            if asks(context) > 2:
                continue
            walk = Walk(seed, QuietMaker(seed + 900).game(FACES))
            walk.go(walk.any_rules(20))
            derivation = Derivation(compose(context, walk.derivation.first))
            derivation.step(("inside", context, walk.derivation))
            self.check_by_chance(derivation, AROUND, seed)
            steps += len(walk.taken)
        self.assertGreater(steps, 60)


class TestKnownDerivations(Case):

    def differences(self, derivation, player, expected):
        """Checks the chances of a player in the first and the last game."""
        found = [fraction(chance(game, player)) for game in (derivation.first, derivation.last)]
        self.assertEqual(found, [Fraction(part) for part in expected])
        return abs(found[0] - found[1])

    def test_reckon_is_reached(self):
        derivation = Derivation(read_game("proc p 1 2 x draw x 2 answer x end"))
        derivation.step(("reckon", read_game("proc p 1 2 x answer 1 end"), 2))
        yes, no = ("say", True), ("say", False)
        for player, calls, expected in (
            (("ask", "p", 0, ((0, yes),)), 1, (Fraction(1, 2), 0)),
            (("ask", "p", 0, ((0, yes), (1, ("ask", "p", 0, ((0, yes),))))), 2, (Fraction(3, 4), 0)),
            (("ask", "p", 0, ((0, no), (1, ("ask", "p", 0, ((0, no), (1, yes)))))), 2, (Fraction(1, 4), 1)),
        ):
            found = self.differences(derivation, player, expected)
            self.assertLessEqual(found, fraction(derivation.bound.at(calls)))
        self.assertEqual(found, fraction(derivation.bound.at(2)))

    def test_until_is_reached(self):
        text = "proc p 1 2 x draw x 5 if = x 3 bad end let x 0 after let x {} end answer x end"
        derivation = Derivation(read_game(text.format(1)))
        derivation.step(("until", read_game(text.format(0))))
        found = self.differences(derivation, ("ask", "p", 0, ((1, ("say", True)),)), (Fraction(1, 5), 0))
        self.assertEqual(found, fraction(derivation.bound.at(1)))

    def test_until_is_reached_by_deeper_bads(self):
        """However many bads stand in the first part, and however deep, they come only if its test holds."""
        text = "proc p 2 2 x local y draw y 5 if = y 3 if x bad else if 1 bad bad end end end let y 0 " \
               "after let y {} end answer y end"
        derivation = Derivation(read_game(text.format(1)))
        derivation.step(("until", read_game(text.format(0))))
        self.assertEqual((fraction(derivation.bound.first), fraction(derivation.bound.more)), (Fraction(1, 5), 0))
        for number in (0, 1):
            found = self.differences(derivation, ("ask", "p", number, ((1, ("say", True)),)), (Fraction(1, 5), 0))
            self.assertEqual(found, fraction(derivation.bound.at(1)))

    def test_a_tactic_reaches_it(self):
        text = "table t 64 1 proc p 1 2 x draw x 64 if has t x bad end put t x 0 let x 0 {} answer x end"
        derivation = Derivation(read_game(text.format("after let x 1 end")))
        derivation.step(("until", read_game(text.format("after end"))))
        tactic = Tactic(((("last",), ("say", ("number", 1)), ("number", 0)),
                         (("number", 1), ("ask", "p", ("number", 0)), ("number", 0))))
        for calls in range(4):
            found = [fraction(chance_of(game, tactic, calls)) for game in (derivation.first, derivation.last)]
            missed = Fraction(1)
            for at in range(calls):
                missed *= Fraction(64 - at, 64)
            self.assertEqual(found, [1 - missed, 0])
            self.assertLessEqual(found[0], fraction(derivation.bound.at(calls)))
        self.assertEqual(fraction(derivation.bound.at(2)), Fraction(1, 64))
        self.assertEqual(1 - Fraction(63, 64), fraction(derivation.bound.at(2)))

    def test_a_function_and_a_permutation(self):
        """Fresh results and results without repetition: the usual two steps, within a context that asks twice."""
        fresh = "proc p 1 4 x draw x 4 answer x end"
        spied = "table t 4 1 proc p 1 4 x local y draw x 4 if has t x bad {}end put t x 0 answer x end"
        inner = Derivation(read_game(spied.format("after end ")))
        inner.step(("until", read_game(spied.format("after draw x 4 if has t x let x + x 1 end end "))))
        self.assertEqual((fraction(inner.bound.first), fraction(inner.bound.more)), (0, Fraction(1, 4)))
        self.check(inner, (("p", 1, 4),), 1)
        self.check_by_chance(inner, (("p", 1, 4),), 1)
        context = read_game("proc c 1 2 u local v ask u p 0 ask v p 0 answer = u v end", ("p",))
        derivation = Derivation(compose(context, inner.first))
        derivation.step(("inside", context, inner))
        self.assertEqual((fraction(derivation.bound.first), fraction(derivation.bound.more)), (Fraction(1, 4), 1))
        self.check(derivation, (("c", 1, 2),), 2)
        self.check_by_chance(derivation, (("c", 1, 2),), 2)
        plain = Derivation(read_game(fresh))
        plain.step(("reckon", read_game(spied.format("after end ")), 3))
        self.assertEqual(fraction(plain.bound.flat), 0)

    def test_beyond_the_limit(self):
        derivation = Derivation(read_game("var n 9 0 proc p 1 2 x set n + n 1 answer < 2 n end"))
        derivation.step(("reckon", read_game("proc p 1 2 x answer 0 end"), 2))
        self.assertEqual([fraction(derivation.bound.at(calls)) for calls in range(4)], [0, 0, 0, 1])
        player = ("ask", "p", 0, ((0, ("ask", "p", 0, ((0, ("ask", "p", 0, ((1, ("say", True)),))),))),))
        self.assertEqual(self.differences(derivation, player, (1, 0)), fraction(derivation.bound.at(3)))


if __name__ == "__main__":
    unittest.main()
