"""Scripts as trees: how statements and expressions are told by tuples.

Statements are ("arrive", expression), likewise "send", "leave" and "print"; ("link", station, seat,
place) with expressions and a place ("station", expression) or ("port", word); ("let", name,
expression); ("repeat", expression, block) and ("if", left, comparison, right, block, else_block).
A block is a tuple of statements.

Expressions are ("number", integer), ("name", word), ("next",), ("queue", expression),
("finished", word), ("minus", many, expression) for so many signs ahead of an expression that
is no minus, and ("sum", first, rest) or ("product", first, rest), where rest is a tuple of (sign,
expression). Operations are performed from left to right, so first is not of the same kind again.
So expressions that differ in needless parentheses alone are equal.
"""


def make_constant(value):
    """Return the expression of an integer."""
    if value < 0:
        return ("minus", 1, ("number", -value))
    return ("number", value)


def find_constant(expression):
    """Return the integer of a constant, or None if the expression is none."""
    if expression[0] == "number":
        return expression[1]
    if expression[0] == "minus" and expression[1] == 1 and expression[2][0] == "number":
        # A minus and 0 is no constant.
        return -expression[2][1] if expression[2][1] > 0 else None
    return None


def make_minus(many, expression):
    """Return the expression with so many signs ahead."""
    if many == 0:
        return expression
    if expression[0] == "minus":
        return ("minus", many + expression[1], expression[2])
    return ("minus", many, expression)


def make_chain(kind, first, rest):
    """Return the sum or the product of a first operand and a list of signs and further operands."""
    if len(rest) == 0:
        return first
    if first[0] == kind:
        return (kind, first[1], first[2] + tuple(rest))
    return (kind, first, tuple(rest))
