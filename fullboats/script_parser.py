"""How scripts are read: the grammar, and where a script does not fit it."""

from fullboats.errors import ScriptSyntaxError
from fullboats.networks import is_letters
from fullboats.script_tokens import KEYWORDS, list_tokens
from fullboats.script_trees import make_chain, make_minus

# The statements that consist of a key word and a single expression.
PLAIN_STATEMENTS = ("arrive", "send", "leave", "print")
COMPARISONS = ("<", "<=", "=", "!=", ">=", ">")


def parse_script(source):
    """Return the statements of a script, or raise ScriptSyntaxError."""
    parser = Parser(list_tokens(source))
    return parser.read_script()


class Parser:
    """Reads tokens from left to right, the last of which stands for the end."""

    def __init__(self, tokens):
        self.tokens = tokens
        self.at = 0

    def look(self):
        """Return the text of the token that is read next."""
        return self.tokens[self.at][0]

    def fail(self):
        """Raise ScriptSyntaxError at the token that is read next."""
        _, row, column = self.tokens[self.at]
        raise ScriptSyntaxError(row, column)

    def take(self, allowed):
        """Read a token and return its text, if it is allowed."""
        text = self.look()
        # The end is never read.
        if text == "" or not allowed:
            self.fail()
        self.at += 1
        return text

    def skip(self, sign):
        """Read a token that must have this text."""
        self.take(self.look() == sign)

    def take_word(self):
        """Read any word and return it."""
        return self.take(is_letters(self.look()))

    def take_name(self):
        """Read a word that is no key word and return it."""
        return self.take(is_letters(self.look()) and self.look() not in KEYWORDS)

    def read_script(self):
        """Read all tokens and return the tuple of the statements."""
        statements = []
        while self.look() != "":
            statements.append(self.read_statement())
        return tuple(statements)

    def read_block(self):
        """Read a block and return the tuple of its statements."""
        self.skip("{")
        statements = []
        while self.look() != "}":
            statements.append(self.read_statement())
        self.skip("}")
        return tuple(statements)

    def read_statement(self):
        """Read a statement and return it."""
        word = self.look()
        if word == "repeat":
            self.skip("repeat")
            count = self.read_sum()
            return ("repeat", count, self.read_block())
        if word == "if":
            return self.read_if()
        if word == "link":
            statement = self.read_link()
        elif word == "let":
            self.skip("let")
            name = self.take_name()
            self.skip("=")
            statement = ("let", name, self.read_sum())
        else:
            self.take(word in PLAIN_STATEMENTS)
            statement = (word, self.read_sum())
        self.skip(";")
        return statement

    def read_link(self):
        """Read a link as far as to its semicolon and return it."""
        self.skip("link")
        station = self.read_sum()
        self.skip(",")
        seat = self.read_sum()
        self.skip(",")
        if self.look() == "station":
            self.skip("station")
            return ("link", station, seat, ("station", self.read_sum()))
        self.skip("port")
        return ("link", station, seat, ("port", self.take_word()))

    def read_if(self):
        """Read an if with its blocks and return it."""
        self.skip("if")
        left = self.read_sum()
        comparison = self.take(self.look() in COMPARISONS)
        right = self.read_sum()
        block = self.read_block()
        other = ()
        if self.look() == "else":
            self.skip("else")
            other = self.read_block()
        return ("if", left, comparison, right, block, other)

    def read_sum(self):
        """Read a sum and return it."""
        first = self.read_product()
        rest = []
        while self.look() in ("+", "-"):
            sign = self.take(True)
            rest.append((sign, self.read_product()))
        return make_chain("sum", first, rest)

    def read_product(self):
        """Read a product and return it."""
        first = self.read_factor()
        rest = []
        while self.look() in ("*", "div", "mod"):
            sign = self.take(True)
            rest.append((sign, self.read_factor()))
        return make_chain("product", first, rest)

    def read_factor(self):
        """Read a factor and return it."""
        many = 0
        while self.look() == "-":
            self.skip("-")
            many += 1
        return make_minus(many, self.read_operand())

    def read_operand(self):
        """Read a factor that begins with no minus and return it."""
        text = self.look()
        if text.isdigit():
            return ("number", int(self.take(True)))
        if text == "next":
            self.skip("next")
            return ("next",)
        if text == "finished":
            self.skip("finished")
            self.skip("(")
            port = self.take_word()
            self.skip(")")
            return ("finished", port)
        if text not in ("queue", "("):
            return ("name", self.take_name())
        if text == "queue":
            self.skip("queue")
        self.skip("(")
        inner = self.read_sum()
        self.skip(")")
        return ("queue", inner) if text == "queue" else inner
