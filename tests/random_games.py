"""Games, contexts, players and tactics that are made by chance, the same ones in each run."""

from random import Random

from tellsnone.game import Game

OPERATORS = ("+", "-", "*", "/", "mod", "<", "=")


class Maker:
    """Makes games; two makers with the same seed make the same ones."""

    outer, tables, lots, inner = "ab", "ts", "ou", ("x", "y", "z")
    words = ("set", "let", "draw", "put", "lot", "lot", "bad", "if", "if", "after")

    def __init__(self, seed):
        self.random = Random(seed)

    def expression(self, inner, depth):
        pick = self.random.randrange(10)
        if depth == 0 or pick < 4:
            return self.random.choice([
                ("number", self.random.choice((0, 1, 2, 3, 65535))), ("local", self.random.choice(inner)),
                ("variable", self.random.choice(self.outer))])
        if pick < 6:
            name = self.random.choice(self.tables)
            return (self.random.choice(("has", "cell")), name, self.expression(inner, depth - 1))
        sign = self.random.choice(OPERATORS)
        return (sign, self.expression(inner, depth - 1), self.expression(inner, depth - 1))

    def block(self, inner, most, depth):
        return tuple([self.statement(inner, depth) for _ in range(self.random.randint(0, most))])

    def statement(self, inner, depth):
        word = self.random.choice(self.words)
        if word in ("if", "after") and depth == 0:
            word = "put"
        local = self.random.choice(inner)
        one, two = self.expression(inner, 2), self.expression(inner, 2)
        if word == "if":
            return (word, one, self.block(inner, 2, depth - 1), self.block(inner, 2, depth - 1))
        if word == "after":
            return (word, self.block(inner, 3, depth - 1))
        if word == "ask":
            return (word, local, self.random.choice(self.faces)[0], one)
        return {
            "set": (word, self.random.choice(self.outer), one), "let": (word, local, one),
            "draw": (word, local, self.random.randint(1, 3)), "put": (word, self.random.choice(self.tables), one, two),
            "lot": (word, local, self.random.choice(self.lots), one), "bad": (word,),
        }[word]

    def proc(self, face):
        """A procedure that draws at least once and mostly answers with something of it."""
        inner = self.inner
        x, y = inner[:2]
        drawn = self.random.choice((("draw", y, 3), ("lot", y, self.lots[1], ("local", x)),
                                    ("lot", y, self.lots[0], ("local", x))))
        block = [*self.block(inner, 4, 2), drawn, *self.block(inner, 2, 2)]
        result = ("+", ("local", y), self.expression(inner, 1))
        return (*face, inner, tuple(block), result)

    def game(self, faces):
        """A game with these names, sizes and numbers of answers of procedures."""
        a, b = self.outer
        variables = ((a, 3, self.random.randrange(3)), (b, 65535, self.random.choice((0, 65534))))
        procs = tuple([self.proc(face) for face in faces])
        tables = ((self.tables[0], 2, 3), (self.tables[1], 3, 2))
        return Game(variables, tables, ((self.lots[0], 2, 2), (self.lots[1], 3, 3)), procs)


class ContextMaker(Maker):
    """Makes contexts around games with certain faces. Some names mean other things in the games of a Maker."""

    outer, tables, lots, inner = "cx", "ka", "tv", ("u", "s", "y")
    words = ("set", "let", "draw", "put", "lot", "if", "ask", "ask", "ask")

    def __init__(self, seed, faces):
        super().__init__(seed)
        self.faces = faces


class PlayerMaker:
    """Makes players and tactics for games with certain faces."""

    def __init__(self, seed, faces):
        self.random = Random(seed)
        self.faces = faces

    def player(self, calls, tosses=1):
        """A player of at most so many calls, and tosses one after the other."""
        pick = self.random.randrange(8)
        if tosses > 0 and pick == 0:
            return ("toss", tuple([self.player(calls, tosses - 1) for _ in range(self.random.randint(1, 3))]))
        if calls == 0 or pick == 1:
            return ("say", self.random.choice((True, False)))
        name, size, answers = self.random.choice(self.faces)
        parts = [(answer, self.player(calls - 1, tosses)) for answer in range(answers) if self.random.randrange(5)]
        return ("ask", name, self.random.randrange(size + 1), tuple(parts))

    def expression(self, depth):
        if depth == 0 or self.random.randrange(3) == 0:
            return self.random.choice([("number", self.random.choice((0, 1, 2, 3))), ("last",), ("made",), ("kept",)])
        return (self.random.choice(OPERATORS), self.expression(depth - 1), self.expression(depth - 1))

    def rules(self, most):
        """The rules of a tactic, which mostly asks first and then says something of what it knows."""
        found = []
        for at in range(self.random.randint(1, most)):
            test = self.random.choice([self.expression(2), ("<", ("made",), ("number", self.random.randint(1, 3)))])
            deed = ("ask", self.random.choice(self.faces)[0], self.expression(2))
            if self.random.randrange(3) == 0:
                deed, test = ("say", self.expression(2)), self.expression(2)
            found.append((test, deed, self.expression(2)))
        end = self.random.choice([("<", ("last",), ("kept",)), ("mod", ("+", ("last",), ("kept",)), ("number", 2)), ("last",)])
        return (*found, (("number", 1), ("say", end), ("number", 0)))
