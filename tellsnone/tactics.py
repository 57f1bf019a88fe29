"""Tactics: players that are written as rules (points 23 to 25)."""

from tellsnone.beliefs import behind_answers, first_belief, together, whole
from tellsnone.errors import BadPlayer, TooLarge
from tellsnone.expressions import expression_words, read_expression
from tellsnone.ratio import Ratio
from tellsnone.running import Runner
from tellsnone.values import operator_value
from tellsnone.words import Words

MOST_RULES = 20
MOST_PLAYERS = 2000
KNOWN = ("last", "made", "kept")


class Tactic:
    """A tactic; `rules` is a tuple of triples of a test, a deed, and what is kept."""

    def __init__(self, rules):
        self.rules = tuple(rules)

    def __eq__(self, other):
        return isinstance(other, Tactic) and self.rules == other.rules


def read_tactic(text):
    """The tactic that a text writes."""
    words = Words(text)
    rules = []
    while words.ahead() == "when" and len(rules) < MOST_RULES:
        words.take()
        rules.append(read_rule(words))
    words.finish()
    return Tactic(tuple(rules))


def read_rule(words):
    """Takes a rule behind its first word."""
    test = read_part(words)
    word = words.one_of(("ask", "say"))
    named = [words.name()] if word == "ask" else []
    deed = (word, *named, read_part(words))
    return (test, deed, read_part(words))


def read_part(words):
    """Takes an expression of a tactic."""
    return read_expression(words, {word: (word,) for word in KNOWN}, ())


def tactic_text(tactic):
    """The text of a tactic."""
    found = []
    for test, deed, keep in tactic.rules:
        found.extend(["when", *expression_words(test), deed[0], *deed[1:-1]])
        found.extend([*expression_words(deed[-1]), *expression_words(keep)])
    return " ".join(found)


def check_tactic(game, tactic):
    """Raises BadPlayer if a tactic has a rule that asks a procedure that there is not."""
    for _, deed, _ in tactic.rules:
        if deed[0] == "ask" and game.proc(deed[1]) is None:
            raise BadPlayer(f"no procedure {deed[1]}")


class Memo:
    """What a tactic knows when it is to act."""

    def __init__(self, last, made, kept):
        self.last = last
        self.made = made
        self.kept = kept

    def value(self, expression):
        """The value of an expression of the tactic."""
        head = expression[0]
        if head == "number":
            return expression[1]
        if head == "last":
            return self.last
        if head == "made":
            return self.made
        if head == "kept":
            return self.kept
        return operator_value(head, self.value(expression[1]), self.value(expression[2]))

    def deed(self, tactic, calls):
        """What the tactic does if it may make so many calls.

        This is `("say", answer)`, or `("ask", procedure, number, kept)` with the number that is kept from then on.
        """
        for test, deed, keep in tactic.rules:
            if self.value(test) != 0:
                return self.worked_out(deed, keep, calls)
        return ("say", False)

    def worked_out(self, deed, keep, calls):
        """What a rule that counts tells the tactic to do."""
        if deed[0] == "say":
            return ("say", self.value(deed[1]) != 0)
        if self.made >= calls:
            return ("say", False)
        return ("ask", deed[1], self.value(deed[2]), self.value(keep))


def chance_of(game, tactic, calls):
    """The chance that a tactic says yes if it may make so many calls."""
    check_tactic(game, tactic)
    runner = Runner(game)
    found = Ratio(0)
    # What was drawn matters only through the state, the last answer and what is kept: all else is taken together.
    beliefs = {(0, 0): first_belief(game)}
    made = 0
    while beliefs:
        asked = {}
        for (last, kept), belief in beliefs.items():
            deed = Memo(last, made, kept).deed(tactic, calls)
            if deed[0] == "ask":
                asked.setdefault(deed, []).append(belief)
            elif deed[1]:
                found = found + whole(belief)
        beliefs = behind_deeds(runner, asked)
        made += 1
    return found


def behind_deeds(runner, asked):
    """The beliefs behind questions, by the answer and the number that is kept; `asked` has those in front of each."""
    behind = {}
    for deed, beliefs in asked.items():
        _, procedure, number, kept = deed
        for answer, belief in behind_answers(runner, together(beliefs), procedure, number).items():
            behind.setdefault((answer, kept), []).append(belief)
    return {known: together(behind[known]) for known in behind}


def player_of(game, tactic, calls):
    """The player of a tactic for so many calls."""
    check_tactic(game, tactic)
    memos = [Memo(0, 0, 0)]
    deeds = []
    parts = []
    while len(deeds) < len(memos):
        memo = memos[len(deeds)]
        deed = memo.deed(tactic, calls)
        answers = game.proc(deed[1])[2] if deed[0] == "ask" else 0
        parts.append([(answer, len(memos) + answer) for answer in range(answers)])
        memos.extend([Memo(answer, memo.made + 1, deed[3]) for answer in range(answers)])
        if len(memos) > MOST_PLAYERS:
            raise TooLarge("player")
        deeds.append(deed)
    return joined(deeds, parts)


def joined(deeds, parts):
    """The player of the first deed; `parts` tells for each deed which one follows on each answer.

    A player may be as many calls deep as there are players in it, so it is put together from its ends on.
    """
    players = {}
    for at in reversed(range(len(deeds))):
        deed = deeds[at]
        if deed[0] == "ask":
            deed = ("ask", deed[1], deed[2], tuple([(answer, players[place]) for answer, place in parts[at]]))
        players[at] = deed
    return players[0]
