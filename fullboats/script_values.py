"""The values of scripts: what operations and comparisons give, and why they stop a run."""

MAX_VALUE = 10 ** 18 - 1


class RunStopped(Exception):
    """Tells the reason why a run of a script stops early."""

    def __init__(self, reason):
        self.reason = reason


def limit_value(value):
    """Return an integer, or stop the run if it has more than eighteen digits."""
    if not -MAX_VALUE <= value <= MAX_VALUE:
        raise RunStopped("overflow")
    return value


def calculate(sign, left, right):
    """Return what an operation gives, or stop the run."""
    if sign == "+":
        return limit_value(left + right)
    if sign == "-":
        return limit_value(left - right)
    if sign == "*":
        return limit_value(left * right)
    if right == 0:
        raise RunStopped("division")
    if sign == "div":
        return limit_value(left // right)
    return limit_value(left - left // right * right)


def compare(comparison, left, right):
    """Tell whether a comparison holds."""
    if comparison == "<":
        return left < right
    if comparison == "<=":
        return left <= right
    if comparison == "=":
        return left == right
    if comparison == "!=":
        return left != right
    if comparison == ">=":
        return left >= right
    return left > right
