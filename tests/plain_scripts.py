"""What the tests of scripts share: a plain reader, runner and maker of scripts, made for the tests alone.

Here expressions are trees of operations with two operands: an integer, ("name", word), ("next",),
("queue", tree), ("finished", word), ("neg", tree) or (sign, left, right). Statements are tuples that
begin with their word; blocks are lists.
"""

import operator
import random
import re

from plain import PlainRun

KEYWORDS = "arrive send leave print link port station let repeat if else div mod queue finished next".split()
NINES = 10 ** 18 - 1
TOKEN = re.compile(r"[ \n]+|#[^\n]*|[a-z]+|[0-9]+|<=|>=|!=|[{}();,+*<=>-]")
COMPARISONS = {
    "<": operator.lt, "<=": operator.le, "=": operator.eq, "!=": operator.ne, ">=": operator.ge, ">": operator.gt}


class PlainError(Exception):
    """Tells the row and the column of what is wrong with a script."""


def fail_at(source, offset):
    before = source[:offset].split("\n")
    raise PlainError(len(before) - 1, len(before[-1]))


def plain_tokens(source):
    """Return the list of (text, offset) of a script without comments."""
    found, offset = [], 0
    while offset < len(source):
        match = TOKEN.match(source, offset)
        text = match.group() if match else ""
        foreign = re.search("[^ -~\n]|%", text)
        if foreign:
            fail_at(source, offset + foreign.start())
        if not text or re.fullmatch("[a-z]{9,}|[0-9]{19,}|0[0-9]+", text):
            fail_at(source, offset)
        if text[0] not in " \n#":
            found.append((text, offset))
        offset += len(text)
    return found


class PlainReader:

    def __init__(self, source):
        self.source = source
        self.tokens = plain_tokens(source)

    def peek(self):
        return self.tokens[0][0] if self.tokens else None

    def take(self, pattern):
        if not self.tokens:
            raise PlainError(len(self.source.split("\n")), 0)
        text, offset = self.tokens[0]
        if not re.fullmatch(pattern, text):
            fail_at(self.source, offset)
        del self.tokens[0]
        return text

    def script(self):
        statements = []
        while self.tokens:
            statements.append(self.statement())
        return statements

    def block(self):
        self.take("{")
        statements = []
        while self.peek() != "}":
            statements.append(self.statement())
        self.take("}")
        return statements

    def statement(self):
        word = self.take("arrive|send|leave|print|link|let|repeat|if")
        if word == "repeat":
            return (word, self.tree(), self.block())
        if word == "if":
            left, sign, right = self.tree(), self.take("<|<=|=|!=|>=|>"), self.tree()
            block, other = self.block(), []
            if self.peek() == "else":
                self.take("else")
                other = self.block()
            return (word, left, sign, right, block, other)
        if word == "let":
            name = self.name()
            self.take("=")
            statement = (word, name, self.tree())
        elif word == "link":
            station = self.tree()
            self.take(",")
            seat = self.tree()
            self.take(",")
            kind = self.take("station|port")
            statement = (word, station, seat, kind, self.tree() if kind == "station" else self.take("[a-z]+"))
        else:
            statement = (word, self.tree())
        self.take(";")
        return statement

    def name(self):
        return self.take("(?!(?:" + "|".join(KEYWORDS) + r")\b)[a-z]+")

    def tree(self, tight=False):
        found = self.factor() if tight else self.tree(True)
        while self.peek() in (("*", "div", "mod") if tight else ("+", "-")):
            found = (self.take(".+"), found, self.factor() if tight else self.tree(True))
        return found

    def factor(self):
        text = self.peek() or ""
        if text == "-":
            self.take("-")
            return ("neg", self.factor())
        if text == "(":
            return self.inner()
        if text == "queue":
            self.take("queue")
            return ("queue", self.inner())
        if text == "finished":
            self.take("finished")
            self.take(r"\(")
            word = self.take("[a-z]+")
            self.take(r"\)")
            return ("finished", word)
        if text == "next":
            return (self.take("next"),)
        if text.isdigit():
            return int(self.take(".+"))
        return ("name", self.name())

    def inner(self):
        self.take(r"\(")
        found = self.tree()
        self.take(r"\)")
        return found


def plain_parse(source):
    """Return the list of the statements of a script, or raise PlainError."""
    return PlainReader(source).script()


class PlainStop(Exception):
    """Tells the reason why a run stops."""


class PlainScriptRun:
    """A run of a script, by plain arrivals."""

    def __init__(self, network, state, source, limit):
        self.run = PlainRun(network, state)
        self.limit = limit
        self.steps = 0
        self.output = []
        self.names = {}
        self.reason = None
        try:
            self.block(plain_parse(source))
        except PlainStop as stop:
            self.reason = stop.args[0]

    def result(self):
        return (self.output, self.run.network, self.run.state(), self.reason)

    def step(self):
        self.stop_if(self.steps == self.limit, "steps")
        self.steps += 1

    def stop_if(self, fault, reason):
        if fault:
            raise PlainStop(reason)

    def block(self, statements):
        for statement in statements:
            self.step()
            getattr(self, "do_" + statement[0])(*statement[1:])

    def do_arrive(self, tree):
        count = self.value(tree)
        self.stop_if(count < 0, "count")
        self.run.arrive(count)

    def do_send(self, tree):
        station = self.value(tree)
        self.stop_if(station not in range(len(self.run.network)), "station")
        self.stop_if(not self.run.queues[station], "empty")
        self.run.send(station)

    def do_leave(self, tree):
        passenger = self.value(tree)
        where = [queue for queue in self.run.queues if passenger in queue]
        self.stop_if(not where, "passenger")
        where[0].remove(passenger)

    def do_print(self, tree):
        self.output.append(self.value(tree))

    def do_link(self, station, seat, kind, target):
        station, seat = self.value(station), self.value(seat)
        place = self.value(target) if kind == "station" else target
        stations = [list(seats) for seats in self.run.network]
        self.stop_if(station not in range(len(stations)), "station")
        self.stop_if(seat not in range(len(stations[station])), "seat")
        self.stop_if(kind == "station" and place not in range(station + 1, len(stations)), "network")
        stations[station][seat] = place
        self.run.network = tuple(map(tuple, stations))

    def do_let(self, name, tree):
        self.names[name] = self.value(tree)

    def do_repeat(self, tree, block):
        count = self.value(tree)
        self.stop_if(count < 0, "count")
        while count:
            self.step()
            self.block(block)
            count -= 1

    def do_if(self, left, sign, right, block, other):
        left, right = self.value(left), self.value(right)
        self.block(block if COMPARISONS[sign](left, right) else other)

    def value(self, tree):
        if isinstance(tree, int):
            return tree
        if tree[0] == "name":
            self.stop_if(tree[1] not in self.names, "undefined")
            return self.names[tree[1]]
        if tree[0] == "neg":
            return -self.value(tree[1])
        if tree[0] == "queue":
            station = self.value(tree[1])
            self.stop_if(station not in range(len(self.run.network)), "station")
            return len(self.run.queues[station])
        if tree[0] == "next":
            return self.limited(self.run.next_passenger)
        if tree[0] == "finished":
            return self.limited(len(self.run.finishers.get(tree[1], [])))
        sign, left, right = tree[0], self.value(tree[1]), self.value(tree[2])
        self.stop_if(sign in ("div", "mod") and right == 0, "division")
        return self.limited({
            "+": lambda: left + right, "-": lambda: left - right, "*": lambda: left * right,
            "div": lambda: left // right, "mod": lambda: left % right}[sign]())

    def limited(self, value):
        self.stop_if(abs(value) > NINES, "overflow")
        return value


class ScriptMaker:
    """Makes scripts that fit the grammar, as lists of tokens, and text of them with needless spaces and comments."""

    def __init__(self, seed, constants=0.5):
        self.chooser = random.Random(seed)
        self.constants = constants

    def tree(self, depth):
        """Return the tokens of a sum."""
        chooser = self.chooser
        if depth == 0 or chooser.random() < 0.3:
            return self.leaf()
        kind = chooser.random()
        if kind < 0.2:
            return ["-"] + self.factor(depth - 1)
        if kind < 0.35:
            return ["("] + self.tree(depth - 1) + [")"]
        if kind < 0.42:
            return ["queue", "("] + self.tree(depth - 1) + [")"]
        sign = chooser.choice(["+", "-", "*", "div", "mod"])
        return self.factor(depth - 1) + [sign] + self.factor(depth - 1)

    def factor(self, depth):
        tokens = self.tree(depth)
        return tokens if len(tokens) == 1 else ["("] + tokens + [")"] if self.chooser.random() < 0.6 else tokens

    def leaf(self):
        chooser = self.chooser
        if chooser.random() < self.constants:
            if chooser.random() < 0.08:
                return [str(NINES - chooser.randrange(2))]
            return [str(chooser.choice([0, 1, 1, 2, 2, 3, 4, 7]))]
        return chooser.choice([["x"], ["y"], ["x"], ["next"], ["queue", "(", str(chooser.randrange(3)), ")"],
                               ["finished", "(", chooser.choice(["a", "b", "c", "let", "nowhere"]), ")"]])

    def block(self, depth, most=4):
        tokens = []
        for _ in range(self.chooser.randrange(most)):
            tokens += self.statement(depth)
        return tokens

    def statement(self, depth):
        chooser = self.chooser
        word = chooser.choice(
            ["arrive"] * 4 + ["print"] * 3 + ["let"] * 3 + ["send", "leave", "link"] + ["repeat", "repeat", "if"] * 2)
        if word == "let":
            return ["let", chooser.choice(["x", "y", "z"]), "="] + self.tree(2) + [";"]
        if word in ("repeat", "if"):
            return self.nested(word, depth)
        if word == "link":
            place = ["port", chooser.choice(["a", "d", "if"])] if chooser.random() < 0.5 else ["station"] + self.leaf()
            return ["link", str(chooser.randrange(3)), ",", str(chooser.randrange(3)), ","] + place + [";"]
        if word == "send":
            return ["send", str(chooser.randrange(3)), ";"]
        if word == "leave":
            return ["leave", "next", "-", str(chooser.randint(1, 3)), ";"]
        return [word] + (self.leaf() if chooser.random() < 0.5 else self.tree(2)) + [";"]

    def nested(self, word, depth):
        inside = self.block(depth - 1) if depth else []
        if word == "repeat":
            return ["repeat"] + self.leaf() + ["{"] + inside + ["}"]
        comparison = self.chooser.choice(list(COMPARISONS))
        tokens = ["if"] + self.tree(1) + [comparison] + self.tree(1) + ["{"] + inside + ["}"]
        if self.chooser.random() < 0.5:
            tokens += ["else", "{"] + (self.block(depth - 1) if depth else []) + ["}"]
        return tokens

    def script(self, depth=2, most=7):
        """Return the text of a script."""
        return self.spread(self.block(depth, most))

    def spread(self, tokens):
        """Return a text of tokens, with spaces, line feeds and comments between them."""
        text = ""
        for token in tokens:
            gap = self.chooser.choice(["", "", " ", " ", "  ", "\n", " \n ", " # repeat {;\n", "#\n"])
            if text and (text[-1] + token[0]).isalnum() and not gap:
                gap = " "
            # These would become a single token.
            if text and text[-1] in "<>!" and token == "=" and not gap:
                gap = " "
            text += gap + token
        return text
