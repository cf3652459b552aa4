"""Scripts as lists of tokens.

A token is (text, row, column). The last one of a list has the text "" and stands for the end of the script.
"""

from fullboats.errors import ScriptSyntaxError
from fullboats.networks import MAX_LETTERS, is_letters

KEYWORDS = (
    "arrive", "send", "leave", "print", "link", "port", "station", "let", "repeat", "if", "else", "div", "mod",
    "queue", "finished", "next",
)

# A sign stands ahead of those with which it begins.
SIGNS = ("<=", ">=", "!=", "{", "}", "(", ")", ";", ",", "+", "-", "*", "<", "=", ">")

MAX_DIGITS = 18
PERCENT = 37


def list_tokens(source):
    """Return the list of the tokens of a script, or raise ScriptSyntaxError at what begins none."""
    tokens = []
    lines = source.split("\n")
    for row, line in enumerate(lines):
        tokens.extend(list_line_tokens(line, row))
    tokens.append(("", len(lines), 0))
    return tokens


def list_line_tokens(line, row):
    """Return the list of the tokens of a line."""
    tokens = []
    column = 0
    while column < len(line) and line[column] != "#":
        if line[column] == " ":
            column += 1
            continue
        text = find_token(line, column)
        if text == "":
            raise ScriptSyntaxError(row, column)
        tokens.append((text, row, column))
        column += len(text)
    check_comment(line, row, column)
    return tokens


def check_comment(line, row, start):
    """Raise ScriptSyntaxError at the first character of a line's comment that no script has."""
    for column in range(start, len(line)):
        if not " " <= line[column] <= "~" or ord(line[column]) == PERCENT:
            raise ScriptSyntaxError(row, column)


def find_token(line, column):
    """Return the longest token that begins at a column, or "" if none does."""
    if is_letters(line[column]):
        return find_word(line, column)
    if is_digit(line[column]):
        return find_number(line, column)
    for sign in SIGNS:
        if line[column:column + len(sign)] == sign:
            return sign
    return ""


def find_word(line, column):
    """Return the word that begins at a column, or "" if it is too long."""
    end = column
    while end < len(line) and is_letters(line[end]):
        end += 1
    return line[column:end] if end - column <= MAX_LETTERS else ""


def find_number(line, column):
    """Return the number that begins at a column, or "" if it is too long or has a leading zero."""
    end = column
    while end < len(line) and is_digit(line[end]):
        end += 1
    text = line[column:end]
    if len(text) > MAX_DIGITS or (text[0] == "0" and text != "0"):
        return ""
    return text


def is_digit(letter):
    """Tell whether a character is a digit 0 to 9."""
    return "0" <= letter <= "9"
