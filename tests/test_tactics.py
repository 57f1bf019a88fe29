"""Points 3, 6 and 23: tactics and their texts."""

import unittest

from random_games import PlayerMaker
from tellsnone.errors import BadText
from tellsnone.tactics import Tactic, read_tactic, tactic_text

LAST, MADE, KEPT = ("last",), ("made",), ("kept",)
KEY_WORDS = ("var table lots proc local set let draw put lot ask if else end bad after answer has cell mod").split()


def number(value):
    return ("number", value)


def left(depth, last="last"):
    """An expression that is so deep on its left side."""
    return "+ " * (depth - 1) + " ".join([last, *["1"] * (depth - 1)])


def right(depth, last="last"):
    """An expression that is so deep on its right side."""
    return "+ 1 " * (depth - 1) + last


class Case(unittest.TestCase):

    def check(self, text, rules):
        """Checks what a text writes, and that it is written like this."""
        tactic = read_tactic(text=text)
        self.assertIs(type(tactic), Tactic)
        self.assertEqual(tactic.rules, rules)
        self.assertEqual(repr(tactic.rules), repr(rules))
        self.assertEqual(tactic_text(tactic=tactic), text)
        self.assertEqual(tactic_text(Tactic(rules)), text)

    def refuse(self, text, at):
        with self.assertRaises(BadText, msg=text) as caught:
            read_tactic(text)
        self.assertIs(type(caught.exception), BadText)
        self.assertEqual(caught.exception.at, at, text)


class TestGoodTexts(Case):

    def test_rules(self):
        self.check("", ())
        self.check("when 1 say 0 0", ((number(1), ("say", number(0)), number(0)),))
        self.check("when last ask p made kept", ((LAST, ("ask", "p", MADE), KEPT),))
        self.check("when < made 3 ask p + last 1 * kept 2 when 1 say = kept last made", (
            (("<", MADE, number(3)), ("ask", "p", ("+", LAST, number(1))), ("*", KEPT, number(2))),
            (number(1), ("say", ("=", KEPT, LAST)), MADE),
        ))

    def test_expressions(self):
        for text, data in (("0", number(0)), ("65535", number(65535)), ("last", LAST), ("made", MADE), ("kept", KEPT),
                           ("+ 1 last", ("+", number(1), LAST)), ("- made 2", ("-", MADE, number(2))),
                           ("* kept kept", ("*", KEPT, KEPT)), ("/ last made", ("/", LAST, MADE)),
                           ("mod last 3", ("mod", LAST, number(3))), ("< made kept", ("<", MADE, KEPT)),
                           ("= last 0", ("=", LAST, number(0))),
                           ("+ - * / mod 1 2 3 4 5 6", ("+", ("-", ("*", ("/", ("mod", number(1), number(2)), number(3)),
                                                                    number(4)), number(5)), number(6)))):
            self.check(f"when {text} say 1 2", ((data, ("say", number(1)), number(2)),))
            self.check(f"when 1 say {text} 2", ((number(1), ("say", data), number(2)),))
            self.check(f"when 1 say 2 {text}", ((number(1), ("say", number(2)), data),))
            self.check(f"when {text} ask p 1 2", ((data, ("ask", "p", number(1)), number(2)),))
            self.check(f"when 1 ask p {text} 2", ((number(1), ("ask", "p", data), number(2)),))
            self.check(f"when 1 ask p 2 {text}", ((number(1), ("ask", "p", number(2)), data),))

    def test_numbers_of_rules(self):
        rule, data = "when made ask p last kept", (MADE, ("ask", "p", LAST), KEPT)
        for many in (0, 1, 2, 19, 20):
            self.check(" ".join([rule] * many), (data,) * many)

    def test_depth(self):
        for deep in (left(8), right(8), left(7), right(7, "kept"), "+ " + left(7) + " " + right(7)):
            for form in ("when {} say 1 2", "when 1 say {} 2", "when 1 say 2 {}", "when 1 ask p {} 2", "when 1 ask p 2 {}"):
                self.assertEqual(tactic_text(read_tactic(form.format(deep))), form.format(deep))

    def test_names(self):
        for name in ("p", "when", "say", "last", "made", "kept", "abcdefghijkl", "p1", "toss", "yes"):
            self.check(f"when last ask {name} made kept", ((LAST, ("ask", name, MADE), KEPT),))
        self.check("when last ask last last last when last ask when 1 1 when 1 ask say 1 1", (
            (LAST, ("ask", "last", LAST), LAST), (LAST, ("ask", "when", number(1)), number(1)),
            (number(1), ("ask", "say", number(1)), number(1))))

    def test_random_tactics(self):
        for seed in range(100):
            rules = PlayerMaker(seed, (("p", 3, 4), ("say", 1, 1))).rules(19)
            self.check(tactic_text(Tactic(rules)), rules)


class TestWrongWords(Case):

    def test_first_words(self):
        for word in ("say", "ask", "1", "last", "whens", "When", "if", "0"):
            self.refuse(word, 0)
            self.refuse(f"when 1 say 0 0 {word}", 5)
            self.refuse(f"when 1 ask p 0 0 {word}", 6)

    def test_deeds(self):
        for word in ("tell", "toss", "when", "1", "SAY", "last", "yes", "put"):
            self.refuse(f"when 1 {word}", 2)
            self.refuse(f"when + 1 last {word} p 1 1", 4)

    def test_names(self):
        for word in (*KEY_WORDS, "P", "1", "1p", "", "abcdefghijklm", "p_", "+", "="):
            self.refuse(f"when 1 ask {word} 0 0", 3)

    def test_expressions(self):
        for word in (*KEY_WORDS, "p", "x", "a", "say", "when", "Last", "lasts", "65536", "00", "01", "-1", "", "==", ">", "and",
                     "number", "local", "has t 1", "cell t 1", "yes"):
            if word == "mod":
                continue
            for form in ("when {} say 1 2", "when 1 say {} 2", "when 1 say 2 {}", "when 1 ask p {} 2", "when 1 ask p 2 {}",
                         "when + {} 1 say 1 2", "when 1 say mod {} 1 2", "when 1 say = 1 {} 2", "when 1 ask p 2 < kept {}"):
                self.refuse(form.format(word), form.split().index("{}"))

    def test_too_deep(self):
        for form in ("when {} say 1 2", "when 1 say {} 2", "when 1 say 2 {}", "when 1 ask p {} 2", "when 1 ask p 2 {}"):
            start = form.split().index("{}")
            for word in ("+", "-", "*", "/", "mod", "<", "="):
                self.refuse(form.format(left(8, f"{word} 1 1")), start + 7)
                self.refuse(form.format(right(8, f"{word} 1 1")), start + 14)
            self.refuse(form.format("+ " + left(7) + " " + left(8)), start + 20)
            self.refuse(form.format(left(9)), start + 7)
            self.refuse(form.format(right(9)), start + 14)

    def test_too_many_rules(self):
        rules = ["when 1 say 0 0"] * 20
        for last in ("when 1 say 0 0", "when", "when when", "say"):
            self.refuse(" ".join([*rules, last]), 100)

    def test_cut_texts(self):
        text = "when < made 3 ask p + last 1 kept when - 1 kept say * 1 = 2 last 0 when 1 ask say 1 1"
        words = text.split()
        whole = (10, 21)
        for many in range(1, len(words)):
            if many not in whole:
                self.refuse(" ".join(words[:many]), many)
            else:
                read_tactic(" ".join(words[:many]))
        read_tactic(text)

    def test_empty_words(self):
        self.refuse(" ", 0)
        self.refuse(" when 1 say 0 0", 0)
        self.refuse("when  1 say 0 0", 1)
        self.refuse("when 1  say 0 0", 2)
        self.refuse("when 1 say 0  0", 4)
        self.refuse("when 1 say 0 0 ", 5)
        self.refuse("when 1 say 0 0  when 1 say 0 0", 5)

    def test_other_characters(self):
        self.refuse("when\t1 say 0 0", 0)
        self.refuse("when 1 say 0 0\n", 4)
        self.refuse("when 1 say 0 0 \n", 5)


class TestTactic(unittest.TestCase):

    def test_attribute(self):
        rules = ((LAST, ("say", number(1)), KEPT),)
        self.assertEqual(Tactic(rules=rules).rules, rules)
        self.assertIs(type(Tactic(rules).rules), tuple)
        self.assertEqual(Tactic(()).rules, ())

    def test_equal(self):
        rules = ((LAST, ("say", number(1)), KEPT), (number(1), ("ask", "p", MADE), ("+", LAST, KEPT)))
        self.assertTrue(Tactic(rules) == Tactic(tuple(list(rules))))
        self.assertTrue(Tactic(rules) == read_tactic("when last say 1 kept when 1 ask p made + last kept"))
        self.assertFalse(Tactic(rules) != Tactic(rules))
        self.assertTrue(Tactic(()) == read_tactic(""))

    def test_one_difference(self):
        text = "when last say 1 kept when 1 ask p made + last kept"
        for other in ("when made say 1 kept when 1 ask p made + last kept", "when last say 2 kept when 1 ask p made + last kept",
                      "when last say 1 made when 1 ask p made + last kept", "when last say 1 kept when 2 ask p made + last kept",
                      "when last say 1 kept when 1 ask r made + last kept", "when last say 1 kept when 1 ask p last + last kept",
                      "when last say 1 kept when 1 ask p made + kept last", "when last say 1 kept when 1 ask p made - last kept",
                      "when last say 1 kept when 1 say made + last kept",
                      "when 1 ask p made + last kept when last say 1 kept", "when last say 1 kept",
                      text + " when 0 say 0 0", text + " when 1 ask p made + last kept", "", "when 1 ask p made + last kept"):
            self.assertFalse(read_tactic(text) == read_tactic(other), other)
            self.assertFalse(read_tactic(other) == read_tactic(text), other)
            self.assertTrue(read_tactic(text) != read_tactic(other), other)

    def test_other_values_are_not_equal(self):
        for value in (None, (), "", 0, ((),)):
            self.assertFalse(Tactic(()) == value)


if __name__ == "__main__":
    unittest.main()
