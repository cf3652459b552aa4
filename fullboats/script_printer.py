"""The canonical form of scripts."""

from fullboats.script_parser import parse_script

INDENT = "  "

# How strongly the parts of an expression hold together: parentheses stand around an operand
# that holds together less strongly than its place asks for.
LOOSE = 0
CLOSE = 1
TIGHT = 2


def format_script(source):
    """Return a script in canonical form."""
    return format_statements(parse_script(source))


def format_statements(statements):
    """Return the text of a tuple of statements."""
    return "\n".join(list_lines(statements, ""))


def list_lines(statements, margin):
    """Return the list of the lines of statements that are indented by a margin."""
    lines = []
    for statement in statements:
        if statement[0] == "repeat":
            head = "repeat " + format_expression(statement[1], LOOSE)
            lines.extend(list_block_lines(margin + head, statement[2], margin))
        elif statement[0] == "if":
            lines.extend(list_if_lines(statement, margin))
        else:
            lines.append(margin + format_plain(statement) + ";")
    return lines


def list_if_lines(statement, margin):
    """Return the list of the lines of an if."""
    _, left, comparison, right, block, other = statement
    sides = [format_expression(left, LOOSE), comparison, format_expression(right, LOOSE)]
    lines = list_block_lines(margin + "if " + " ".join(sides), block, margin)
    if len(other) > 0:
        lines = lines[:-1] + list_block_lines(lines[-1] + " else", other, margin)
    return lines


def list_block_lines(head, block, margin):
    """Return the list of the lines of a block, the first of which begins with a head."""
    if len(block) == 0:
        return [head + " {}"]
    return [head + " {"] + list_lines(block, margin + INDENT) + [margin + "}"]


def format_plain(statement):
    """Return the text of a statement that has no block, without its semicolon."""
    word = statement[0]
    if word == "let":
        return f"let {statement[1]} = {format_expression(statement[2], LOOSE)}"
    if word == "link":
        _, station, seat, (kind, target) = statement
        place = target if kind == "port" else format_expression(target, LOOSE)
        return f"link {format_expression(station, LOOSE)}, {format_expression(seat, LOOSE)}, {kind} {place}"
    return f"{word} {format_expression(statement[1], LOOSE)}"


def format_expression(expression, least):
    """Return the text of an expression, in parentheses if it holds together less strongly than it must."""
    kind = expression[0]
    if kind == "sum":
        strength = LOOSE
        text = format_chain(expression, CLOSE)
    elif kind == "product":
        strength = CLOSE
        text = format_chain(expression, TIGHT)
    else:
        strength = TIGHT
        text = format_factor(expression)
    return text if strength >= least else "(" + text + ")"


def format_chain(expression, least):
    """Return the text of a sum or a product, whose operands must hold together so strongly."""
    _, first, rest = expression
    text = format_expression(first, least)
    for sign, operand in rest:
        text += f" {sign} {format_expression(operand, least)}"
    return text


def format_factor(expression):
    """Return the text of an expression that is neither a sum nor a product."""
    kind = expression[0]
    if kind == "minus":
        return "-" * expression[1] + format_expression(expression[2], TIGHT)
    if kind == "queue":
        return "queue(" + format_expression(expression[1], LOOSE) + ")"
    if kind == "finished":
        return "finished(" + expression[1] + ")"
    if kind == "next":
        return "next"
    return str(expression[1])
