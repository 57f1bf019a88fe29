"""What expressions and statements read and write (point 16).

A place is a pair of a kind and a name, so that things of different kinds may have the same name.
"""

from tellsnone.expressions import LOOKS
from tellsnone.statements import FORMS
from tellsnone.walking import every_expression, every_statement, own_expressions

BAD = ("bad", "")


def expression_reads(expression):
    """The places that an expression reads."""
    found = []
    for part in every_expression(expression):
        if part[0] in ("local", "variable"):
            found.append(part)
        elif part[0] in LOOKS:
            found.append(("table", part[1]))
    return found


def statement_reads(statement):
    """The places that a statement reads, those of its parts included."""
    return block_reads((statement,))


def block_reads(block):
    """The places that statements read."""
    found = []
    for statement in every_statement(block):
        for part in own_expressions(statement):
            found.extend(expression_reads(part))
        if statement[0] == "lot":
            found.append(("lots", statement[2]))
        elif statement[0] == "after":
            found.append(BAD)
    return found


def proc_reads(proc):
    """The places that a procedure reads."""
    return [*block_reads(proc[4]), *expression_reads(proc[5])]


def own_writes(statement):
    """The places that a statement writes, but not what statements in it write."""
    word = statement[0]
    if word in ("if", "after"):
        return []
    if word == "bad":
        return [BAD]
    found = [(FORMS[word][0], statement[1])]
    if word == "lot":
        found.append(("lots", statement[2]))
    return found


def statement_writes(statement):
    """The places that a statement writes, those of its parts included."""
    found = []
    for part in every_statement((statement,)):
        found.extend(own_writes(part))
    return found


def disturbs(statement, other):
    """Whether a statement writes what another one reads or writes."""
    touched = [*statement_reads(other), *statement_writes(other)]
    return len(set(statement_writes(statement)) & set(touched)) > 0


def reads_local(expression, local):
    """Whether an expression reads a local."""
    return ("local", local) in expression_reads(expression)
