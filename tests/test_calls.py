"""Point 9: what a call does."""

import unittest
from fractions import Fraction

from helpers import answer_shares, begun, called, only_end, shares
from tellsnone.errors import BadCall
from tellsnone.game import Game, read_game
from tellsnone.running import Runner, first_state

HALF = Fraction(1, 2)


def answer(statements, result="x", number=0, head="var a 5 3 var b 9 0 table t 4 5 table s 2 2 lots o 3 4 "):
    """The answer of a procedure with these statements, of which only one can come."""
    words = f"{head}proc p 64 64 x local y local z {statements} answer {result} end".split()
    return only_end(" ".join(words), number)[1]


def answers(statements, result="x", number=0, head="lots o 3 4 "):
    """The chances of the answers of a procedure with these statements."""
    words = f"{head}proc p 64 64 x local y local z {statements} answer {result} end".split()
    _, runner, state = begun(" ".join(words))
    return answer_shares(runner.ends(state, "p", number))


def evenly(numbers):
    return {number: Fraction(1, len(numbers)) for number in numbers}


class TestNumber(unittest.TestCase):

    def test_number_modulo_the_size(self):
        text = "proc p 7 64 x answer x end"
        for number, expected in ((0, 0), (1, 1), (6, 6), (7, 0), (8, 1), (13, 6), (14, 0), (10 ** 12, 10 ** 12 % 7)):
            self.assertEqual(only_end(text, number)[1], expected)

    def test_size_64_and_size_1(self):
        for size in (64, 1):
            text = f"proc p {size} 64 x answer x end"
            for number in (0, size - 1, size, size + 1, 65535, 65536, 10 ** 12, 10 ** 40 + 9):
                self.assertEqual(only_end(text, number)[1], number % size)

    def test_calls_that_are_bad(self):
        _, runner, state = begun("var v 5 0 table t 2 2 lots o 2 2 proc p 7 64 x answer x end")
        for procedure, number in (("p", -1), ("p", -7), ("p", -10 ** 12), ("r", 0), ("", 0), ("x", 0), ("v", 0),
                                  ("t", 0), ("o", 0), ("r", -1)):
            with self.assertRaises(BadCall):
                runner.ends(state, procedure, number)

    def test_a_bad_call_of_a_game_with_too_many_ways(self):
        _, runner, state = begun("proc p 7 64 x draw x 64 draw x 64 draw x 64 answer x end")
        for procedure, number in (("p", -1), ("r", 0)):
            with self.assertRaises(BadCall):
                runner.ends(state, procedure, number)

    def test_a_game_without_procedures(self):
        with self.assertRaises(BadCall):
            Runner(read_game("")).ends(((), (), (), False), "p", 0)


class TestAnswer(unittest.TestCase):

    def test_answer_modulo_the_answers(self):
        for many in (1, 2, 5, 63, 64):
            for result in (0, 1, 4, 5, 6, 62, 63, 64, 65, 65535):
                self.assertEqual(only_end(f"proc p 1 {many} x answer {result} end")[1], result % many)

    def test_the_result_is_computed_behind_the_statements(self):
        self.assertEqual(answer("let x 1 set a 2 put t 0 4", "+ x * 3 + a * 4 cell t 0"), 1 + 3 * (2 + 4 * 4))


class TestStatements(unittest.TestCase):

    def test_no_statements(self):
        text = "var a 5 3 table t 4 5 lots o 3 4 proc p 9 9 x answer x end"
        self.assertEqual(only_end(text, 4), (first_state(read_game(text)), 4))

    def test_set_modulo_the_size(self):
        for value, expected in ((0, 0), (4, 4), (5, 0), (6, 1), (65535, 0), (65534, 4)):
            state, _ = only_end(f"var a 5 3 var b 9 8 proc p 1 1 x set a {value} answer 0 end")
            self.assertEqual(state[0], (expected, 8))
            self.assertEqual(answer(f"set a {value}", "a"), expected)

    def test_set_with_the_sizes_1_and_65535(self):
        state, _ = only_end("var a 1 0 var b 65535 1 var c 65535 1 proc p 1 1 x "
                            "set a 9 set b 65535 set c 65534 answer 0 end")
        self.assertEqual(state[0], (0, 0, 65534))

    def test_let_is_not_cut(self):
        for value in (64, 70, 65535):
            self.assertEqual(answer(f"let y {value}", f"= y {value}"), 1)
            self.assertEqual(answer(f"let x {value}", f"= x {value}"), 1)
        self.assertEqual(answer("let y + 65535 3", "y"), 2)

    def test_put_modulo_keys_and_values(self):
        for value, expected in ((0, 0), (4, 4), (5, 0), (6, 1), (65535, 0)):
            state, _ = only_end(f"table t 4 5 table s 2 2 proc p 1 1 x put t 2 {value} answer 0 end")
            self.assertEqual(state[1], (((2, expected),), ()))
        for key, expected in ((0, 0), (3, 3), (4, 0), (65535, 3)):
            state, _ = only_end(f"table t 4 5 table s 2 2 proc p 1 1 x put t {key} 1 answer 0 end")
            self.assertEqual(state[1], (((expected, 1),), ()))

    def test_put_again(self):
        state, _ = only_end("table t 4 5 proc p 1 1 x put t 2 1 put t 6 3 put t 1 2 answer 0 end")
        self.assertEqual(state[1], (((1, 2), (2, 3)),))

    def test_put_reads_ahead_of_writing(self):
        state, _ = only_end("table t 4 5 proc p 1 1 x put t 2 1 put t + 2 cell t 2 + 1 has t 2 answer 0 end")
        self.assertEqual(state[1], (((2, 1), (3, 2)),))
        state, _ = only_end("table t 4 5 proc p 1 1 x put t has t 0 has t 0 put t has t 0 has t 0 answer 0 end")
        self.assertEqual(state[1], (((0, 0), (1, 1)),))

    def test_statements_see_the_ones_before(self):
        self.assertEqual(answer("let y + a 1 set a y let z + a y set b z", "b"), 8)
        self.assertEqual(answer("let x + x 1 let x + x x let x + x x", "x", 5), 24)

    def test_if(self):
        for test, expected in (("0", 2), ("1", 1), ("2", 1), ("65535", 1), ("- 1 2", 2), ("+ 65535 1", 2), ("x", 2)):
            self.assertEqual(answer(f"if {test} let y 1 else let y 2 end", "y"), expected)
        self.assertEqual(answer("if 0 let y 1 end", "y"), 0)
        self.assertEqual(answer("if 1 let y 1 end", "y"), 1)
        self.assertEqual(answer("if 1 else let y 2 end let z 5", "+ y * 10 z"), 50)
        self.assertEqual(answer("if 0 else let y 2 end", "y"), 2)
        self.assertEqual(answer("if 0 end if 1 end let y 3", "y"), 3)

    def test_the_test_is_computed_once(self):
        self.assertEqual(answer("if = y 0 let y 1 let z + z 1 else let z + z 10 end", "z"), 1)
        self.assertEqual(answer("if y let y 0 let z + z 1 else let y 1 let z + z 10 end", "z"), 10)

    def test_more_than_one_statement_in_a_part(self):
        self.assertEqual(answer("if 1 let y 1 let z 2 set a 3 else let y 7 end let x 1", "+ y + * z 3 + * 9 a * 27 x"), 61)
        self.assertEqual(answer("if 0 let y 7 else let y 1 let z 2 end let x 1", "+ y + * z 3 * 9 x"), 16)

    def test_bad_and_after(self):
        self.assertEqual(answer("after let y 1 end", "y"), 0)
        self.assertEqual(answer("bad after let y 1 end", "y"), 1)
        self.assertEqual(answer("after let y 1 end bad after let z 2 end", "+ y z"), 2)
        self.assertEqual(answer("after let y 1 end bad", "y"), 0)
        self.assertEqual(answer("bad bad after let y 1 end after let z 2 end", "+ y z"), 3)
        self.assertEqual(answer("after bad end after let y 1 end", "y"), 0)
        self.assertEqual(answer("bad after let y 1 let z + y 1 end let x 4", "+ x * 8 z"), 20)

    def test_bad_in_parts(self):
        for parts, expected in (("if 1 bad end", 1), ("if 0 bad end", 0), ("if 1 else bad end", 0),
                                ("if 0 else bad end", 1), ("if 1 if 0 else bad end end", 1), ("after bad end", 0),
                                ("bad after bad end", 1), ("if 1 after bad end bad end", 1)):
            text = f"proc p 1 2 x local y {parts} after let y 1 end answer y end"
            state, told = only_end(text)
            self.assertEqual((state[3], told), (bool(expected), expected), parts)

    def test_if_and_after_within_each_other(self):
        text = "if x after let y + y 1 if a bad end end bad after if = x 2 let y + y 5 else let y + y 9 end end " \
               "else after let y 40 end end"
        self.assertEqual([answer(text, "y", number) for number in (0, 1, 2)], [0, 9, 5])
        self.assertEqual([answer("bad " + text, "y", number) for number in (0, 1, 2)], [40, 10, 6])

    def test_six_deep(self):
        self.assertEqual(answer("bad if 1 after if 1 after if 0 else if x let y 6 end end end end end end", "y", 1), 6)

    def test_bad_for_ever(self):
        text = "proc p 3 2 x local y after let y 1 end if = x 2 bad end answer y end"
        self.assertEqual(called(text, (0, 1, 2, 0, 1, 2)), [0, 0, 0, 1, 1, 1])


class TestLocals(unittest.TestCase):

    def test_other_locals_are_0_at_the_beginning(self):
        self.assertEqual(answer("", "+ y z", 5), 0)
        self.assertEqual(called("proc p 9 9 x local y let y + y + x 1 answer y end", (1, 4, 4)), [2, 5, 5])

    def test_the_parameter_is_an_ordinary_local(self):
        self.assertEqual(answer("let x + x 2", "x", 5), 7)
        self.assertEqual(answers("draw x 3", "x", 5), evenly([0, 1, 2]))
        self.assertEqual(answers("lot x o x", "x", 5), evenly([0, 1, 2, 3]))
        self.assertEqual(answers("lot x o x lot y o x", "= x y", 1), {0: Fraction(9, 16), 1: Fraction(7, 16)})

    def test_six_locals(self):
        text = "proc p 9 64 f local e local d local c local b local a let a f let c + a 1 answer + * 8 c + a + b d end"
        self.assertEqual(only_end(text, 3)[1], 35)


class TestDraw(unittest.TestCase):

    def test_results(self):
        for many in (1, 2, 3, 63, 64):
            self.assertEqual(answers(f"draw y {many}", "y"), evenly(range(many)))

    def test_two_draws(self):
        self.assertEqual(answers("draw x 2 draw y 3", "+ x * 2 y"), evenly(range(6)))
        self.assertEqual(answers("draw y 2 draw y 3", "y"), evenly(range(3)))
        self.assertEqual(answers("draw x 2 draw y 2", "+ x y"), {0: Fraction(1, 4), 1: HALF, 2: Fraction(1, 4)})

    def test_draws_in_parts(self):
        self.assertEqual(answers("draw x 2 if x draw y 3 end", "+ x * 2 y"),
                         {0: HALF, 1: Fraction(1, 6), 3: Fraction(1, 6), 5: Fraction(1, 6)})
        self.assertEqual(answers("draw x 2 if x bad end after draw y 2 end", "+ x * 2 y"),
                         {0: HALF, 1: Fraction(1, 4), 3: Fraction(1, 4)})

    def test_ways_are_kept_apart(self):
        text = "draw x 2 if x let y 5 end draw z 2 if z let y + y 1 end"
        self.assertEqual(answers(text, "y"), evenly([0, 1, 5, 6]))


class TestLots(unittest.TestCase):

    def test_results_and_rows(self):
        _, runner, state = begun("lots u 2 2 lots o 3 4 proc p 9 64 x local y lot y o x answer y end")
        for number in (0, 2, 3, 8):
            expected = {(((), (), ((), ((number % 3, value),)), False), value): Fraction(1, 4) for value in range(4)}
            self.assertEqual(shares(runner.ends(state, "p", number)), expected)

    def test_a_key_that_has_been_looked_at_in_this_call(self):
        self.assertEqual(answers("lot x o 1 lot y o 1", "+ x * 4 y"), evenly([0, 5, 10, 15]))
        self.assertEqual(answers("lot x o 1 lot y o 4", "+ x * 4 y"), evenly([0, 5, 10, 15]))
        self.assertEqual(answers("lot x o 1 lot y o 2", "+ x * 4 y"), evenly(range(16)))

    def test_a_key_that_has_been_looked_at_in_an_earlier_call(self):
        _, runner, state = begun("lots o 3 4 proc p 9 64 x local y lot y o x answer y end")
        for later, told, _ in runner.ends(state, "p", 1):
            for number in (1, 4, 7):
                self.assertEqual(shares(runner.ends(later, "p", number)), {(later, told): 1})
            for number in (0, 2):
                self.assertEqual(answer_shares(runner.ends(later, "p", number)), evenly(range(4)))

    def test_lots_with_the_value_0(self):
        _, runner, state = begun("lots o 3 4 proc p 9 64 x local y lot y o x answer y end")
        later = ((), (), (((1, 0),),), False)
        self.assertIn(later, [end[0] for end in runner.ends(state, "p", 1)])
        self.assertEqual(shares(runner.ends(later, "p", 1)), {(later, 0): 1})

    def test_lots_with_one_value(self):
        state, told = only_end("lots o 3 1 proc p 9 64 x lot x o x answer x end", 5)
        self.assertEqual((state, told), (((), (), (((2, 0),),), False), 0))

    def test_several_lots(self):
        text = "lot x o 1 lot y u 1"
        self.assertEqual(answers(text, "+ x * 4 y", head="lots o 3 4 lots u 2 3 "), evenly(range(12)))

    def test_a_draw_tells_nothing_of_lots(self):
        self.assertEqual(answers("draw x 4 lot y o 0", "+ x * 4 y"), evenly(range(16)))

    def test_lots_in_parts(self):
        self.assertEqual(answers("if x lot y o 0 end lot z o 0", "+ y * 4 z", 1), evenly([0, 5, 10, 15]))
        self.assertEqual(answers("if x lot y o 0 end lot z o 0", "+ y * 4 z", 0), evenly([0, 4, 8, 12]))
        self.assertEqual(answers("draw x 2 if x lot y o 0 end lot z o 0", "= y z"), {0: Fraction(3, 8), 1: Fraction(5, 8)})


class TestNames(unittest.TestCase):

    def test_one_name_for_all_kinds(self):
        text = "var n 9 3 table n 4 5 lots n 2 6 proc n 4 64 x put n 1 2 set n 4 lot x n n answer + n cell n 1 end"
        game, runner, state = begun(text)
        found = runner.ends(state, "n", 0)
        self.assertEqual(shares(found), {(((4,), (((1, 2),),), (((0, value),),), False), 6): Fraction(1, 6)
                                         for value in range(6)})

    def test_a_local_with_the_name_of_a_procedure_and_of_a_table(self):
        text = "table t 4 5 proc p 9 64 p local t let t + p 1 put t p t answer + t * 8 cell t p end"
        self.assertEqual(only_end(text, 3)[1], 36)

    def test_procedures_share_what_is_no_local(self):
        _, runner, state = begun("var a 9 1 proc p 9 9 x set a + a x answer a end proc r 9 9 y let y a answer y end")
        ((state, told, _),) = runner.ends(state, "p", 3)
        self.assertEqual(told, 4)
        ((state, told, _),) = runner.ends(state, "r", 8)
        self.assertEqual(told, 4)

    def test_a_local_and_a_variable_of_one_name_in_a_game_that_no_text_writes(self):
        block = (("let", "n", ("+", ("variable", "n"), ("local", "n"))), ("set", "n", ("number", 6)))
        result = ("+", ("*", ("number", 8), ("variable", "n")), ("local", "n"))
        game = Game((("n", 9, 2),), (), (), (("p", 9, 64, ("n",), block, result),))
        self.assertEqual(Runner(game).ends(first_state(game), "p", 3)[0][:2], (((6,), (), (), False), 53))


class TestCalls(unittest.TestCase):

    def test_one_after_the_other(self):
        self.assertEqual(called("var a 5 0 proc p 9 9 x set a + a x answer a end", (1, 3, 3, 8, 0)), [1, 4, 2, 0, 0])
        text = "table t 9 9 proc p 9 64 x local y let y has t x put t x + 1 cell t x answer + * 16 y cell t x end"
        self.assertEqual(called(text, (1, 1, 2, 10, 2)), [1, 18, 1, 19, 18])

    def test_a_call_is_of_the_state_that_is_passed(self):
        _, runner, first = begun("var a 5 0 proc p 9 9 x set a + a x answer a end")
        ((later, told, _),) = runner.ends(first, "p", 1)
        self.assertEqual([runner.ends(first, "p", 1)[0][1], runner.ends(later, "p", 1)[0][1], told], [1, 2, 1])
        self.assertEqual(runner.ends(((4,), (), (), True), "p", 3)[0][:2], (((2,), (), (), True), 2))

    def test_chances_of_two_calls(self):
        _, runner, state = begun("var a 9 0 proc p 1 9 x draw x 2 set a + a x answer a end")
        found = {}
        for later, _, share in runner.ends(state, "p", 0):
            for _, told, more in runner.ends(later, "p", 0):
                product = share * more
                found[told] = found.get(told, 0) + Fraction(product.num, product.den)
        self.assertEqual(found, {0: Fraction(1, 4), 1: HALF, 2: Fraction(1, 4)})


if __name__ == "__main__":
    unittest.main()
