"""Texts of players (point 22)."""

from tellsnone.players import DEEPEST_PLAYER, MOST_TOSSED
from tellsnone.words import GREATEST_NUMBER, Words

MOST_PARTS = 64


def read_player(text):
    """The player that a text writes."""
    words = Words(text)
    player = read_below(words, DEEPEST_PLAYER)
    words.finish()
    return player


def read_below(words, left):
    """Takes a player that may have `left` more calls and tosses one after the other."""
    word = words.one_of(("say", "toss", "ask") if left > 0 else ("say",))
    if word == "say":
        return ("say", words.one_of(("yes", "no")) == "yes")
    if word == "toss":
        many = words.number(1, MOST_TOSSED)
        return ("toss", tuple([read_below(words, left - 1) for _ in range(many)]))
    procedure = words.name()
    number = words.number(0, GREATEST_NUMBER)
    return ("ask", procedure, number, read_parts(words, left - 1))


def read_parts(words, left):
    """Takes the number of the parts of a question, and the parts."""
    many = words.number(0, MOST_PARTS)
    found = {}
    for _ in range(many):
        word = words.ahead()
        if word in found:
            words.refuse()
        answer = words.number(0, MOST_PARTS - 1)
        found[word] = (answer, read_below(words, left))
    return tuple(found.values())


def player_text(player):
    """The text of a player."""
    return " ".join(player_words(player))


def player_words(player):
    """The words of a player."""
    if player[0] == "say":
        return ["say", "yes" if player[1] else "no"]
    if player[0] == "toss":
        found = ["toss", str(len(player[1]))]
        for part in player[1]:
            found.extend(player_words(part))
        return found
    _, procedure, number, parts = player
    found = ["ask", procedure, str(number), str(len(parts))]
    for answer, part in parts:
        found.extend([str(answer), *player_words(part)])
    return found
