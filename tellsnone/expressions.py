"""Expressions: from words to data, and from data to words (points 5 and 7)."""

from tellsnone.words import GREATEST_NUMBER, is_number

OPERATORS = ("+", "-", "*", "/", "mod", "<", "=")
LOOKS = ("has", "cell")
DEEPEST_EXPRESSION = 8


def read_expression(words, meanings, tables, depth=1):
    """Takes an expression; `meanings` tells the data of each word that is one by itself."""
    word = words.ahead()
    if depth < DEEPEST_EXPRESSION and word in OPERATORS:
        words.take()
        left = read_expression(words, meanings, tables, depth + 1)
        return (word, left, read_expression(words, meanings, tables, depth + 1))
    if depth < DEEPEST_EXPRESSION and word in LOOKS and tables:
        words.take()
        table = words.one_of(tables)
        return (word, table, read_expression(words, meanings, tables, depth + 1))
    if is_number(word):
        return ("number", words.number(0, GREATEST_NUMBER))
    return meanings[words.one_of(meanings)]


def expression_words(expression):
    """The words of an expression of a game or a tactic."""
    head = expression[0]
    if len(expression) == 1:
        return [head]
    if head == "number":
        return [str(expression[1])]
    if head in ("local", "variable"):
        return [expression[1]]
    if head in LOOKS:
        return [head, expression[1], *expression_words(expression[2])]
    return [head, *expression_words(expression[1]), *expression_words(expression[2])]
