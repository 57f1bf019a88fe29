"""The words of a text, its names and its numbers (point 3)."""

from tellsnone.errors import BadText

KEY_WORDS = (
    "var", "table", "lots", "proc", "local", "set", "let", "draw", "put", "lot",
    "ask", "if", "else", "end", "bad", "after", "answer", "has", "cell", "mod",
)
LETTERS = "abcdefghijklmnopqrstuvwxyz"
DIGITS = "0123456789"
LONGEST_NAME = 12
LONGEST_NUMBER = 5
GREATEST_NUMBER = 65535


def is_name(word):
    """Whether a word is a name."""
    if not 1 <= len(word) <= LONGEST_NAME or word in KEY_WORDS:
        return False
    return word[0] in LETTERS and all([sign in LETTERS or sign in DIGITS for sign in word])


def is_number(word):
    """Whether a word is a number."""
    if not 1 <= len(word) <= LONGEST_NUMBER or not all([sign in DIGITS for sign in word]):
        return False
    if word[0] == "0":
        return word == "0"
    return int(word) <= GREATEST_NUMBER


class Words:
    """The words of a text, taken one after the other as long as they fit."""

    def __init__(self, text):
        self.words = text.split(" ") if text else []
        self.at = 0

    def ended(self):
        """Whether all words have been taken."""
        return self.at == len(self.words)

    def ahead(self):
        """The word to be taken now; behind the last one the empty word, which fits nowhere."""
        if self.ended():
            return ""
        return self.words[self.at]

    def refuse(self):
        """Refuses the text for the word to be taken now, or for its lack."""
        raise BadText(self.at)

    def take(self):
        """Takes a word that is known to fit."""
        word = self.ahead()
        self.at += 1
        return word

    def one_of(self, choices):
        """Takes one of some words."""
        if self.ahead() not in choices:
            self.refuse()
        return self.take()

    def name(self, taken=()):
        """Takes a name that is not one of those that are taken."""
        if not is_name(self.ahead()) or self.ahead() in taken:
            self.refuse()
        return self.take()

    def number(self, least, greatest):
        """Takes a number within limits."""
        if not is_number(self.ahead()) or not least <= int(self.ahead()) <= greatest:
            self.refuse()
        return int(self.take())

    def finish(self):
        """Refuses the text if a word is left."""
        if not self.ended():
            self.refuse()
