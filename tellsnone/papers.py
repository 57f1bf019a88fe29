"""Papers: derivations that are written as lines (points 26 and 27)."""

from tellsnone.derivation import Derivation
from tellsnone.errors import BadPaper, BadStep, BadText
from tellsnone.game import first_parts, game_text, read_game
from tellsnone.words import GREATEST_NUMBER, Words

# The parts of the lines of steps that nobody can notice.
LINES = {
    "fold": (),
    "swap": ("name", "number"),
    "drop": ("name", "number"),
    "toss": ("name", "number", "name", "number"),
    "shift": ("name", "number"),
    "sink": ("name", "number"),
    "erase": ("kind", "name"),
    "spell": ("name",),
}
KINDS = ("variable", "table")
MOST_RECKONED = 8
DEEPEST_DERIVATION = 3


def paper_lines(first, steps):
    """The lines of a derivation."""
    found = [f"game {game_text(first)}"]
    for step in steps:
        found.extend(step_lines(step))
    return found


def step_lines(step):
    """The lines of a step."""
    rule = step[0]
    if rule == "back":
        return [f"back {plain_line(step[2])} = {game_text(step[1])}"]
    if rule == "until":
        return [f"until {game_text(step[1])}"]
    if rule == "reckon":
        return [f"reckon {step[2]} {game_text(step[1])}"]
    if rule == "inside":
        _, context, (first, steps) = step
        return ["open", *paper_lines(first, steps), f"close {game_text(context)}"]
    return [plain_line(step)]


def plain_line(step):
    """The line of a step that nobody can notice."""
    return " ".join([str(part) for part in step])


def read_paper(lines):
    """The first game and the steps that a paper writes."""
    sheet = read_lines(lines, False)
    return sheet.first, sheet.steps


def judged(lines):
    """The derivation that a paper writes, with all steps taken."""
    return read_lines(lines, True).derivation


def derived(first, steps):
    """The derivation from a game by steps as they are in papers."""
    derivation = Derivation(first)
    for step in steps:
        if step[0] == "inside":
            _, context, (inner, others) = step
            derivation.step(("inside", context, derived(inner, others)))
        else:
            derivation.step(step)
    return derivation


def read_lines(lines, judging):
    """The sheet of the outermost derivation; `judging` tells whether the steps are taken, too."""
    paper = Paper(judging)
    for line in lines:
        paper.take(line)
    return paper.whole()


class Sheet:
    """A derivation of a paper, as far as its lines were read; `derivation` has taken its steps if it is judged."""

    def __init__(self, first, judging):
        self.first = first
        self.steps = []
        self.derivation = Derivation(first) if judging else None

    def take(self, step):
        """Takes a step."""
        if self.derivation is not None:
            self.derivation.step(step)
        self.steps.append(step)

    def take_inside(self, context, inner):
        """Takes a step by the derivation of another sheet."""
        if self.derivation is not None:
            self.derivation.step(("inside", context, inner.derivation))
        self.steps.append(("inside", context, (inner.first, inner.steps)))


class Paper:
    """A paper, as far as its lines were read.

    `sheets` has the derivations that have not been closed, each one within the one in front of it; while `fresh`, the
    first line of another one must come.
    """

    def __init__(self, judging):
        self.judging = judging
        self.sheets = []
        self.fresh = True
        self.at = 0

    def refuse(self):
        """Refuses the paper for the line to be read now, or for its lack."""
        raise BadPaper(self.at)

    def whole(self):
        """The sheet of the outermost derivation, if no line is missing."""
        if self.fresh or len(self.sheets) > 1:
            self.refuse()
        return self.sheets[0]

    def take(self, line):
        """Takes a line, if it can stand there and its step holds."""
        try:
            self.read(line)
        except (BadText, BadStep):
            raise BadPaper(self.at) from None
        self.at += 1

    def read(self, line):
        """Takes a line that may also be refused by what is read of it."""
        if self.fresh:
            self.sheets.append(Sheet(read_game(text_behind(line, "game")), self.judging))
            self.fresh = False
        elif line == "open":
            if len(self.sheets) > DEEPEST_DERIVATION:
                self.refuse()
            self.fresh = True
        elif line.startswith("close"):
            self.close(text_behind(line, "close"))
        else:
            self.sheets[-1].take(read_step(line))

    def close(self, text):
        """Takes the text of a context around the innermost derivation."""
        if len(self.sheets) == 1:
            self.refuse()
        inner = self.sheets.pop()
        context = read_game(text, first_parts(inner.first.procs))
        self.sheets[-1].take_inside(context, inner)


def cut(line, sign):
    """The parts of a line in front of a sign and behind it, which it must have.

    A paper tells only which line is refused, so the index of the word does not matter here and below.
    """
    head, found, rest = line.partition(sign)
    if not found:
        raise BadText(0)
    return head, rest


def text_behind(line, word):
    """What stands behind the first word of a line, which must be this one."""
    head, rest = cut(line, " ")
    if head != word:
        raise BadText(0)
    return rest


def read_step(line):
    """The step that a line writes."""
    if line.startswith("back"):
        step, text = cut(text_behind(line, "back"), " = ")
        return ("back", read_game(text), read_plain(step))
    if line.startswith("until"):
        return ("until", read_game(text_behind(line, "until")))
    if line.startswith("reckon"):
        calls, text = cut(text_behind(line, "reckon"), " ")
        words = Words(calls)
        return ("reckon", read_game(text), words.number(0, MOST_RECKONED))
    return read_plain(line)


def read_plain(line):
    """The step that nobody can notice that a line writes."""
    words = Words(line)
    rule = words.one_of(list(LINES))
    parts = [read_part(words, kind) for kind in LINES[rule]]
    words.finish()
    return (rule, *parts)


def read_part(words, kind):
    """Takes a part of a line."""
    if kind == "name":
        return words.name()
    if kind == "number":
        return words.number(0, GREATEST_NUMBER)
    return words.one_of(KINDS)
