"""Point 8: the state at the beginning, and the values of expressions."""

import unittest

from helpers import only_end
from tellsnone.game import Game, read_game
from tellsnone.running import Runner, first_state

TOP = 65535
EDGES = (0, 1, 2, 3, 255, 256, 257, 32767, 32768, 65533, 65534, 65535)
ROWS = "table t 4 9 table s 1 9 "


def value(expression, statements="", maps=ROWS):
    """The value of an expression behind some statements; it tells 65535 from 0, too."""
    text = f"var v 65535 0 {maps}proc p 64 2 x local y {statements} set v {expression} answer = {expression} 65535 end"
    state, top = only_end(" ".join(text.split()), 5)
    return TOP if top else state[0][0]


class TestFirstState(unittest.TestCase):

    def test_with_nothing(self):
        self.assertEqual(first_state(read_game("")), ((), (), (), False))
        self.assertEqual(first_state(read_game("proc p 1 1 x answer x end")), ((), (), (), False))

    def test_variables(self):
        self.assertEqual(first_state(read_game("var a 9 3")), ((3,), (), (), False))
        self.assertEqual(first_state(read_game("var b 65535 65534 var a 1 0 var c 2 1")), ((65534, 0, 1), (), (), False))

    def test_tables_and_lots_are_empty(self):
        self.assertEqual(first_state(read_game("table t 4 5 table s 1 1")), ((), ((), ()), (), False))
        self.assertEqual(first_state(read_game("lots o 4 5 lots u 1 1 lots w 1 1")), ((), (), ((), (), ()), False))

    def test_all_together(self):
        text = "var a 9 3 table t 4 5 lots o 8 7 lots u 2 2 proc p 1 1 x set a 1 put t 0 1 bad lot x o 1 answer 0 end"
        self.assertEqual(first_state(read_game(text)), ((3,), ((),), ((), ()), False))

    def test_kinds(self):
        state = first_state(read_game("var a 9 3 table t 4 5 lots o 8 7"))
        self.assertEqual([type(part) for part in state], [tuple, tuple, tuple, bool])
        self.assertEqual((type(state[1][0]), type(state[2][0])), (tuple, tuple))


class TestOperators(unittest.TestCase):

    def check(self, sign, meaning):
        for left in EDGES:
            for right in EDGES:
                self.assertEqual(value(f"{sign} {left} {right}"), meaning(left, right), (sign, left, right))

    def test_plus(self):
        self.check("+", lambda left, right: (left + right) % 65536)
        self.assertEqual(value("+ 65535 1"), 0)
        self.assertEqual(value("+ 65535 65535"), 65534)
        self.assertEqual(value("+ 65534 1"), 65535)

    def test_times(self):
        self.check("*", lambda left, right: left * right % 65536)
        self.assertEqual(value("* 256 256"), 0)
        self.assertEqual(value("* 257 255"), 65535)
        self.assertEqual(value("* 65535 65535"), 1)

    def test_minus(self):
        self.check("-", lambda left, right: left - right if left > right else 0)
        self.assertEqual(value("- 0 1"), 0)
        self.assertEqual(value("- 0 65535"), 0)
        self.assertEqual(value("- 65535 0"), 65535)

    def test_divided(self):
        self.check("/", lambda left, right: 0 if right == 0 else left // right)
        self.assertEqual(value("/ 65535 2"), 32767)
        self.assertEqual(value("/ 7 0"), 0)

    def test_mod(self):
        self.check("mod", lambda left, right: 0 if right == 0 else left % right)
        self.assertEqual(value("mod 65535 32768"), 32767)
        self.assertEqual(value("mod 7 0"), 0)

    def test_less(self):
        self.check("<", lambda left, right: 1 if left < right else 0)

    def test_equal(self):
        self.check("=", lambda left, right: 1 if left == right else 0)

    def test_order_of_the_parts_and_inner_ones(self):
        self.assertEqual(value("- * + 1 2 10 / 9 4"), 28)
        self.assertEqual(value("- / 9 4 * + 1 2 10"), 0)
        self.assertEqual(value("- + 65535 2 1"), 0)
        self.assertEqual(value("+ - 1 2 65535"), 65535)
        self.assertEqual(value("mod - 9 2 = < 3 4 2"), 0)

    def test_numbers_locals_and_variables(self):
        self.assertEqual([value(str(number)) for number in EDGES], list(EDGES))
        self.assertEqual(value("x"), 5)
        self.assertEqual(value("y", "let y 65535"), 65535)
        state, answer = only_end("var a 9 3 var b 9 4 proc p 64 64 x answer + * 10 a b end")
        self.assertEqual((state[0], answer), ((3, 4), 34))

    def test_values_go_through_deep_expressions(self):
        deep = ("number", 1)
        for _ in range(100):
            deep = ("+", deep, ("local", "x"))
        game = Game((("v", 65535, 0),), (), (), (("p", 64, 1, ("x",), (("set", "v", deep),), ("number", 0)),))
        ((state, _, _),) = Runner(game).ends(first_state(game), "p", 7)
        self.assertEqual(state[0], (701,))


class TestRows(unittest.TestCase):

    def test_without_a_row(self):
        for key in (0, 3, 4, 65535):
            self.assertEqual(value(f"has t {key}"), 0)
            self.assertEqual(value(f"cell t {key}"), 0)

    def test_with_a_row(self):
        for key, where in ((0, 0), (1, 1), (3, 3), (4, 0), (7, 3), (65535, 3), (65532, 0)):
            for at in range(4):
                put = f"put t {key} 8"
                self.assertEqual(value(f"has t {at}", put), int(at == where), (key, at))
                self.assertEqual(value(f"cell t {at}", put), 8 if at == where else 0, (key, at))

    def test_keys_that_are_read_beyond_the_keys(self):
        for at in (2, 6, 10, 65534):
            self.assertEqual(value(f"has t {at}", "put t 2 8"), 1)
            self.assertEqual(value(f"cell t {at}", "put t 2 8"), 8)
        for at in (3, 4, 5, 65535):
            self.assertEqual(value(f"has t {at}", "put t 2 8"), 0)
            self.assertEqual(value(f"cell t {at}", "put t 2 8"), 0)

    def test_a_row_with_the_value_0(self):
        self.assertEqual(value("has t 1", "put t 1 0"), 1)
        self.assertEqual(value("cell t 1", "put t 1 0"), 0)

    def test_one_key(self):
        for at in (0, 1, 64, 65535):
            self.assertEqual(value(f"cell s {at}", "put s 3 8"), 8)
            self.assertEqual(value(f"cell t {at}", "put s 3 8"), 0)
            self.assertEqual(value(f"has t {at}", "put s 3 8"), 0)

    def test_tables_with_different_numbers_of_keys(self):
        text = "put r 60 6"
        maps = "table r 64 9 " + ROWS
        self.assertEqual([value(f"cell r {at}", text, maps) for at in (60, 124, 63, 0, 64)], [6, 6, 0, 0, 0])

    def test_keys_that_are_computed(self):
        self.assertEqual(value("cell t + cell t 1 has t 1", "put t 1 2 put t 3 7"), 7)
        self.assertEqual(value("cell t x", "put t 1 6"), 6)


if __name__ == "__main__":
    unittest.main()
