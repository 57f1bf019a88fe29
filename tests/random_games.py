"""Games that are made by chance, the same ones in each run."""

from random import Random

from tellsnone.game import Game

OPERATORS = ("+", "-", "*", "/", "mod", "<", "=")


class Maker:
    """Makes games; two makers with the same seed make the same ones."""

    def __init__(self, seed):
        self.random = Random(seed)

    def expression(self, inner, depth):
        pick = self.random.randrange(10)
        if depth == 0 or pick < 4:
            return self.random.choice([
                ("number", self.random.choice((0, 1, 2, 3, 65535))), ("local", self.random.choice(inner)),
                ("variable", self.random.choice("ab"))])
        if pick < 6:
            name = self.random.choice("ts")
            return (self.random.choice(("has", "cell")), name, self.expression(inner, depth - 1))
        sign = self.random.choice(OPERATORS)
        return (sign, self.expression(inner, depth - 1), self.expression(inner, depth - 1))

    def block(self, inner, most, depth):
        return tuple([self.statement(inner, depth) for _ in range(self.random.randint(0, most))])

    def statement(self, inner, depth):
        word = self.random.choice(("set", "let", "draw", "put", "lot", "lot", "bad", "if", "if", "after"))
        if word in ("if", "after") and depth == 0:
            word = "put"
        local = self.random.choice(inner)
        one, two = self.expression(inner, 2), self.expression(inner, 2)
        if word == "if":
            return (word, one, self.block(inner, 2, depth - 1), self.block(inner, 2, depth - 1))
        if word == "after":
            return (word, self.block(inner, 3, depth - 1))
        return {
            "set": (word, self.random.choice("ab"), one), "let": (word, local, one),
            "draw": (word, local, self.random.randint(1, 3)), "put": (word, self.random.choice("ts"), one, two),
            "lot": (word, local, self.random.choice("ou"), one), "bad": (word,),
        }[word]

    def proc(self, face):
        """A procedure that draws at least once and mostly answers with something of it."""
        inner = ("x", "y", "z")
        drawn = self.random.choice((("draw", "y", 3), ("lot", "y", "u", ("local", "x")), ("lot", "y", "o", ("local", "x"))))
        block = [*self.block(inner, 4, 2), drawn, *self.block(inner, 2, 2)]
        result = ("+", ("local", "y"), self.expression(inner, 1))
        return (*face, inner, tuple(block), result)

    def game(self, faces):
        """A game with these names, sizes and numbers of answers of procedures."""
        variables = (("a", 3, self.random.randrange(3)), ("b", 65535, self.random.choice((0, 65534))))
        procs = tuple([self.proc(face) for face in faces])
        return Game(variables, (("t", 2, 3), ("s", 3, 2)), (("o", 2, 2), ("u", 3, 3)), procs)
