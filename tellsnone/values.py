"""What the operators yield (point 8)."""

VALUES = 65536


def added(left, right):
    """The value of `+`."""
    return (left + right) % VALUES


def subtracted(left, right):
    """The value of `-`."""
    return max(0, left - right)


def multiplied(left, right):
    """The value of `*`."""
    return left * right % VALUES


def divided(left, right):
    """The value of `/`."""
    return left // right if right else 0


def remainder(left, right):
    """The value of `mod`."""
    return left % right if right else 0


def smaller(left, right):
    """The value of `<`."""
    return 1 if left < right else 0


def same_value(left, right):
    """The value of `=`."""
    return 1 if left == right else 0


OPERATIONS = {
    "+": added,
    "-": subtracted,
    "*": multiplied,
    "/": divided,
    "mod": remainder,
    "<": smaller,
    "=": same_value,
}


def operator_value(sign, left, right):
    """The value of an operator with two values."""
    operation = OPERATIONS[sign]
    return operation(left, right)
