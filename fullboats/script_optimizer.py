"""Scripts that run alike, with fewer statements and steps."""

from fullboats.script_parser import parse_script
from fullboats.script_printer import format_statements
from fullboats.script_trees import find_constant, make_chain, make_constant, make_minus
from fullboats.script_values import MAX_VALUE, RunStopped, calculate, compare


def optimize_script(source):
    """Return a script in canonical form that runs like the given one and does not take more steps."""
    statements = parse_script(source)
    before = None
    # What goes may have been the only one to read a name, so that more can go.
    while statements != before:
        before = statements
        statements = simplify_block(before, find_read_names(before))
    return format_statements(statements)


def find_read_names(statements):
    """Return a dict of True with all names that statements read."""
    names = {}
    for statement in statements:
        for part in list_expressions(statement):
            add_read_names(part, names)
        for block in list_blocks(statement):
            names.update(find_read_names(block))
    return names


def list_expressions(statement):
    """Return the list of the expressions of a statement, without those in its blocks."""
    if statement[0] == "if":
        return [statement[1], statement[3]]
    if statement[0] == "let":
        return [statement[2]]
    if statement[0] != "link":
        return [statement[1]]
    _, station, seat, (kind, target) = statement
    return [station, seat, target] if kind == "station" else [station, seat]


def list_blocks(statement):
    """Return the list of the blocks of a statement."""
    if statement[0] == "repeat":
        return [statement[2]]
    if statement[0] == "if":
        return [statement[4], statement[5]]
    return []


def add_read_names(expression, names):
    """Add all names that an expression reads to a dict of True."""
    kind = expression[0]
    if kind == "name":
        names[expression[1]] = True
    elif kind == "queue":
        add_read_names(expression[1], names)
    elif kind == "minus":
        add_read_names(expression[2], names)
    elif kind in ("sum", "product"):
        add_read_names(expression[1], names)
        for _, operand in expression[2]:
            add_read_names(operand, names)


def simplify_block(statements, names):
    """Return simpler statements that run alike, in a script that reads these names."""
    kept = []
    for statement in statements:
        for simple in simplify_statement(statement, names):
            append_statement(kept, simple)
    return tuple(kept)


def append_statement(statements, statement):
    """Append a statement to a list, or let one more arrive at its end if that does the same."""
    count = find_arriving((statement,))
    before = find_arriving(tuple(statements[-1:]))
    if count is not None and before is not None and before + count <= MAX_VALUE:
        statements[-1] = ("arrive", make_constant(before + count))
    else:
        statements.append(statement)


def find_arriving(block):
    """Return how many arrive in a block of a single arrive with a constant from 0 on, or None for another one."""
    if len(block) != 1 or block[0][0] != "arrive":
        return None
    count = find_constant(block[0][1])
    return count if count is not None and count >= 0 else None


def simplify_statement(statement, names):
    """Return a list of simpler statements that run like a statement."""
    kind = statement[0]
    if kind == "if":
        return simplify_if(statement, names)
    if kind == "repeat":
        return simplify_repeat(statement, names)
    if kind == "link":
        _, station, seat, (target_kind, target) = statement
        place = (target_kind, fold(target) if target_kind == "station" else target)
        return [("link", fold(station), fold(seat), place)]
    expression = fold(statement[-1])
    constant = find_constant(expression)
    if kind == "arrive" and constant == 0:
        return []
    if kind == "let" and constant is not None and statement[1] not in names:
        return []
    return [statement[:-1] + (expression,)]


def simplify_if(statement, names):
    """Return a list of simpler statements that run like an if."""
    _, left_part, comparison, right_part, block, other = statement
    left = fold(left_part)
    right = fold(right_part)
    block = simplify_block(block, names)
    other = simplify_block(other, names)
    if find_constant(left) is None or find_constant(right) is None:
        return [("if", left, comparison, right, block, other)]
    if compare(comparison, find_constant(left), find_constant(right)):
        return list(block)
    return list(other)


def simplify_repeat(statement, names):
    """Return a list of simpler statements that run like a repeat."""
    count = fold(statement[1])
    block = simplify_block(statement[2], names)
    times = find_constant(count)
    if times == 0 or (times is not None and times > 0 and len(block) == 0):
        return []
    if times == 1:
        return list(block)
    arriving = find_arriving(block)
    # A negative count must stop the run.
    if times is None or times < 0 or arriving is None or times * arriving > MAX_VALUE:
        return [("repeat", count, block)]
    return [("arrive", make_constant(times * arriving))]


def fold(expression):
    """Return an expression of the same value, in which no operation has constant operands only, unless it fails."""
    kind = expression[0]
    if kind == "queue":
        return ("queue", fold(expression[1]))
    if kind == "minus":
        return fold_minus(expression[1], fold(expression[2]))
    if kind in ("sum", "product"):
        return fold_chain(kind, fold(expression[1]), expression[2])
    return expression


def fold_minus(many, operand):
    """Return a folded operand with its sign changed so many times."""
    odd = many & 1
    constant = find_constant(operand)
    if constant is None:
        return make_minus(odd, operand)
    return make_constant(-constant if odd else constant)


def fold_chain(kind, first, rest):
    """Return a sum or a product, whose first operand is folded, with all operations performed that can be."""
    kept = []
    for sign, part in rest:
        operand = fold(part)
        result = None
        # Only what stands ahead of all names and failures has constants on both sides.
        if len(kept) == 0:
            result = fold_operation(sign, find_constant(first), find_constant(operand))
        if result is None:
            kept.append((sign, operand))
        else:
            first = result
    return make_chain(kind, first, kept)


def fold_operation(sign, left, right):
    """Return the constant that an operation gives, or None if an operand is None or the run would stop."""
    if left is None or right is None:
        return None
    try:
        return make_constant(calculate(sign, left, right))
    except RunStopped:
        return None
