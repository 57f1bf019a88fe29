"""Statements: from words to data, and from data to words (points 5 and 7)."""

from tellsnone.expressions import expression_words, read_expression

# One table for reading and for writing, so that the two cannot differ.
FORMS = {
    "set": ("variable", "expression"),
    "let": ("local", "expression"),
    "draw": ("local", "number"),
    "put": ("table", "expression", "expression"),
    "lot": ("local", "lots", "expression"),
    "ask": ("local", "asked", "expression"),
    "bad": (),
}
DEEPEST_STATEMENT = 6
MOST_DRAWN = 64


class StatementReader:
    """Takes the statements of one procedure; `names` has the names that each kind of part may be."""

    def __init__(self, words, names):
        self.words = words
        self.names = names
        self.meanings = {name: (kind, name) for kind in ("local", "variable") for name in names[kind]}
        self.starts = [word for word in FORMS if all([self.can_follow(kind) for kind in FORMS[word]])]

    def can_follow(self, kind):
        """Whether a part of this kind can be written at all."""
        return kind not in self.names or len(self.names[kind]) > 0

    def can_start(self, word, depth):
        """Whether a statement with this first word can stand within `depth` others."""
        if word in ("if", "after"):
            return depth < DEEPEST_STATEMENT
        return word in self.starts

    def block(self, depth=0):
        """Takes statements as long as one can begin."""
        found = []
        while self.can_start(self.words.ahead(), depth):
            found.append(self.statement(depth))
        return tuple(found)

    def statement(self, depth):
        """Takes one statement."""
        word = self.words.take()
        if word == "if":
            return self.choice(depth + 1)
        if word == "after":
            block = self.block(depth + 1)
            self.words.one_of(("end",))
            return ("after", block)
        return (word, *[self.part(kind) for kind in FORMS[word]])

    def choice(self, depth):
        """Takes an `if` behind its first word."""
        test = self.expression()
        first = self.block(depth)
        if self.words.one_of(("else", "end")) == "end":
            return ("if", test, first, ())
        second = self.block(depth)
        if not second:
            self.words.refuse()
        self.words.one_of(("end",))
        return ("if", test, first, second)

    def part(self, kind):
        """Takes a part of a statement."""
        if kind == "expression":
            return self.expression()
        if kind == "number":
            return self.words.number(1, MOST_DRAWN)
        return self.words.one_of(self.names[kind])

    def expression(self):
        """Takes an expression."""
        return read_expression(self.words, self.meanings, self.names["table"])


def block_words(block):
    """The words of statements."""
    found = []
    for statement in block:
        found.extend(statement_words(statement))
    return found


def statement_words(statement):
    """The words of one statement."""
    word = statement[0]
    if word == "if":
        return choice_words(statement)
    if word == "after":
        return ["after", *block_words(statement[1]), "end"]
    found = [word]
    for kind, part in zip(FORMS[word], statement[1:]):
        found.extend(expression_words(part) if kind == "expression" else [str(part)])
    return found


def choice_words(statement):
    """The words of an `if`."""
    _, test, first, second = statement
    found = ["if", *expression_words(test), *block_words(first)]
    if second:
        found.extend(["else", *block_words(second)])
    return [*found, "end"]
