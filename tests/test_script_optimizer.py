"""Tests of fullboats.script_optimizer: point 19, and point 1 as far as it speaks of it."""

import unittest

from fullboats.errors import ScriptSyntaxError
from fullboats.script_optimizer import optimize_script
from fullboats.script_printer import format_script
from fullboats.script_runner import run_script
from plain import EMPTY, SMALL, random_cases
from plain_scripts import NINES, PlainScriptRun, ScriptMaker, plain_parse

BIG = 10 ** 18
HALF = 5 * 10 ** 17


def constant(tree):
    """Return the value of a constant, or None."""
    if isinstance(tree, int):
        return tree
    if tree[0] == "neg" and isinstance(tree[1], int) and tree[1] > 0:
        return -tree[1]
    return None


def performed(sign, left, right):
    """Return what an operation gives, or None if it stops the run."""
    if sign in ("div", "mod") and right == 0:
        return None
    value = {"+": lambda: left + right, "-": lambda: left - right, "*": lambda: left * right,
             "div": lambda: left // right, "mod": lambda: left % right}[sign]()
    return value if abs(value) <= NINES else None


def subtrees(tree):
    """Yield a tree and all that it consists of."""
    yield tree
    if not isinstance(tree, int):
        for part in tree[1:]:
            if not isinstance(part, str):
                yield from subtrees(part)


def all_statements(block):
    for statement in block:
        yield statement
        for part in statement:
            if isinstance(part, list):
                yield from all_statements(part)


def all_blocks(block):
    yield block
    for statement in block:
        for part in statement:
            if isinstance(part, list):
                yield from all_blocks(part)


def all_trees(block):
    for statement in all_statements(block):
        places = {"let": [2], "if": [1, 3], "link": [1, 2, 4] if statement[3:4] == ("station",) else [1, 2]}
        for place in places.get(statement[0], [1]):
            yield from subtrees(statement[place])


def arriving(statement):
    """Return the constant from 0 on of an arrive, or None."""
    count = constant(statement[1]) if statement[0] == "arrive" else None
    return count if count is not None and count >= 0 else None


def find_faults(source):
    """Return the list of all forms in a script that an optimized one does not have."""
    script = plain_parse(source)
    faults = []
    read = {tree[1] for tree in all_trees(script) if not isinstance(tree, int) and tree[0] == "name"}
    for tree in all_trees(script):
        if not isinstance(tree, int) and len(tree) == 3:
            values = [constant(part) for part in tree[1:]]
            if None not in values and performed(tree[0], *values) is not None:
                faults.append(("operation", tree))
        if not isinstance(tree, int) and tree[0] == "neg":
            if tree[1] == 0 or not isinstance(tree[1], int) and tree[1][0] == "neg":
                faults.append(("minus", tree))
    for block in all_blocks(script):
        for one, other in zip(block, block[1:]):
            if None not in (arriving(one), arriving(other)) and arriving(one) + arriving(other) <= NINES:
                faults.append(("two", one, other))
    for statement in all_statements(script):
        value = constant(statement[1]) if statement[0] in ("arrive", "repeat", "if") else None
        if statement[0] == "arrive" and value == 0:
            faults.append(statement)
        if statement[0] == "repeat" and value is not None:
            block = statement[2]
            single = arriving(block[0]) if len(block) == 1 else None
            if value in (0, 1) or value > 0 and (not block or single is not None and value * single <= NINES):
                faults.append(statement)
        if statement[0] == "if" and value is not None and constant(statement[3]) is not None:
            faults.append(statement)
        if statement[0] == "let" and constant(statement[2]) is not None and statement[1] not in read:
            faults.append(statement)
    return faults


def count_statements(source):
    return len(list(all_statements(plain_parse(source))))


class ScriptOptimizerTest(unittest.TestCase):

    def check(self, source, wanted):
        with self.subTest(source=source):
            self.assertEqual(optimize_script(source), wanted)
            self.check_form(source)
            for limit in (0, 1, 3, 10, 100):
                self.check_runs(SMALL, (4, ((3,), (2,), ())), source, limit)

    def check_form(self, source):
        text = optimize_script(source)
        self.assertEqual(format_script(text), text)
        self.assertEqual(optimize_script(text), text)
        self.assertEqual(optimize_script(format_script(source)), text)
        self.assertEqual(find_faults(text), [])
        self.assertLessEqual(count_statements(text), count_statements(source))

    def check_runs(self, network, state, source, limit):
        """Check that the optimized script runs like the given one, and return why this one stops."""
        text = optimize_script(source)
        given = run_script(network, state, source, limit)
        found = run_script(network, state, text, limit)
        if given[3] == "steps":
            self.assertEqual(found[0][:len(given[0])], given[0])
        else:
            self.assertEqual(found, given)
            self.assertNotEqual(found[3], "steps")
        return given[3]

    def check_expression(self, source, wanted):
        self.check(f"print {source};", f"print {wanted};")
        self.check(f"send {source};", f"send {wanted};")
        self.check(f"leave {source};", f"leave {wanted};")
        self.check(f"print queue({source});", f"print queue({wanted});")
        self.check(f"link {source}, {source}, station {source};", f"link {wanted}, {wanted}, station {wanted};")
        self.check(f"if y < {source} {{}}", f"if y < {wanted} {{}}")
        self.check(f"if {source} >= y {{}}", f"if {wanted} >= y {{}}")
        self.check(f"let z = y mod ({source});", format_script(f"let z = y mod ({wanted});"))

    def test_examples_of_the_document(self):
        self.check("repeat 3 { arrive 2; arrive 1 + 2; } print 2 * 2;", "arrive 15;\nprint 4;")
        self.check("if 1 < 2 { print queue(0); } else { print 3; }", "print queue(0);")

    def test_made_scripts(self):
        reasons = {}
        for seed, (network, state) in enumerate(random_cases(191, 1500, 4, 4)):
            # Few of these names are read, and many of these values are constants.
            source = ScriptMaker(seed, 0.4 + 0.1 * (seed % 6)).script(3, 9)
            with self.subTest(source=source):
                self.check_form(source)
                for limit in (0, 2, 7, 30, 300):
                    with self.subTest(network=network, state=state, limit=limit):
                        reason = self.check_runs(network, state, source, limit)
                        reasons[reason] = reasons.get(reason, 0) + 1
        for reason in (None, "steps", "undefined", "division", "count", "station", "empty", "passenger", "seat",
                       "network", "overflow"):
            self.assertGreater(reasons[reason], 4, reason)

    def test_steps_of_made_scripts(self):
        fewer = 0
        for seed, (network, state) in enumerate(random_cases(192, 600, 4, 4)):
            source = ScriptMaker(seed, 0.8).script(3, 9).replace("99999999999999999", "")
            given = PlainScriptRun(network, state, source, 300)
            found = PlainScriptRun(network, state, optimize_script(source), 300)
            with self.subTest(source=source):
                self.assertLessEqual(found.steps, given.steps)
                if given.reason != "steps":
                    self.assertEqual(found.result(), given.result())
            fewer += found.steps < given.steps
        self.assertGreater(fewer, 200)

    def test_operations_of_constants(self):
        for source, wanted in (
                ("1 + 2", "3"), ("1 - 2", "-1"), ("2 * 3", "6"), ("7 div 2", "3"), ("7 mod 2", "1"), ("-7 div 2", "-4"),
                ("-7 mod 2", "1"), ("7 div -2", "-4"), ("7 mod -2", "-1"), ("2 - 2", "0"), ("0 * -5", "0"),
                ("1 + 2 + 3", "6"), ("1 + 2 * 3", "7"), ("(1 + 2) * 3", "9"), ("(1 + 2) * (3 - 5)", "-6"),
                ("1 - (2 - (3 - (4 - 5)))", "3"), ("(((7)))", "7"), ("1 + 2 + x", "3 + x"), ("x + 1 + 2", "x + 1 + 2"),
                ("x + (1 + 2)", "x + 3"), ("2 * 3 * x", "6 * x"), ("x * (2 * 3)", "x * 6"), ("x * 2 * 3", "x * 2 * 3"),
                ("1 + 2 * x + 3", "1 + 2 * x + 3"), ("1 - 2 + x", "-1 + x"), ("x - (1 - 2)", "x - -1"),
                ("2 * 3 + x * (4 + 5)", "6 + x * 9"), ("queue(1 + 1) + 2 * 2", "queue(2) + 4"),
                ("queue(queue(0 * 7))", "queue(queue(0))"), ("next + (1 + 1)", "next + 2"),
                ("finished(a) - 2 * 2", "finished(a) - 4"), ("(1 + 1) * (x + (1 + 1))", "2 * (x + 2)")):
            self.check_expression(source, wanted)

    def test_minus(self):
        for source, wanted in (
                ("--x", "x"), ("---x", "-x"), ("----x", "x"), ("-(-x)", "x"), ("-(-(-x))", "-x"), ("-0", "0"), ("--0", "0"),
                ("-(0)", "0"), ("-(1 - 1)", "0"), ("- -3", "3"), ("---3", "-3"), ("-(-(3))", "3"), ("2 - -3", "5"),
                ("2 + -3", "-1"), ("-2 - 3", "-5"), ("-(2 + 3)", "-5"), ("-(2 - 5)", "3"), ("-5", "-5"), ("x - -3", "x - -3"),
                ("x - --3", "x - 3"), ("x * -0", "x * 0"), ("-(x + 1)", "-(x + 1)"), ("--(x + 1)", "x + 1"),
                ("--(x + 1) + 2", "x + 1 + 2"), ("--(x * 2) * 3", "x * 2 * 3"), ("2 + --(x + 1)", "2 + (x + 1)"),
                ("--(x + 1) * 2", "(x + 1) * 2"), ("--(x * 2) + 1", "x * 2 + 1"), ("-(-(1 + 2) * x)", "-(-3 * x)"),
                ("-queue(--1)", "-queue(1)"), ("--next", "next"), ("-(-x + 1)", "-(-x + 1)"), ("-(--x * 2)", "-(x * 2)"),
                ("-x * -(-2)", "-x * 2"), (f"-{NINES}", f"-{NINES}"), (f"--{NINES}", str(NINES))):
            self.check_expression(source, wanted)

    def test_results_of_eighteen_and_nineteen_digits(self):
        for source, wanted in (
                (f"{NINES - 1} + 1", str(NINES)), (f"{NINES} + 1", f"{NINES} + 1"), (f"-{NINES - 1} - 1", f"-{NINES}"),
                (f"-{NINES} - 1", f"-{NINES} - 1"), (f"{NINES} - -1", f"{NINES} - -1"), (f"{HALF} * 2", f"{HALF} * 2"),
                (f"{HALF - 1} * 2", str(BIG - 2)), (f"{NINES} + 1 - 1", f"{NINES} + 1 - 1"),
                (f"{NINES} - 1 + 1", str(NINES)), (f"-{NINES} mod 2", "1"), (f"{HALF} + {HALF}", f"{HALF} + {HALF}"),
                (f"({NINES} + 1) * 0", f"({NINES} + 1) * 0"), (f"0 * ({NINES} + (2 - 1))", f"0 * ({NINES} + 1)")):
            self.check_expression(source, wanted)

    def test_operations_that_stop_the_run_stay(self):
        for source in ("1 div 0", "1 mod 0", "0 div 0", f"{NINES} + 1", f"-{NINES} - 1", f"{HALF} * 2", "1 div 0 + 2",
                       "1 + 2 div 0", "1 div (2 div 0)", "-(1 div 0)", "-(1 div 0) * 2"):
            wanted = format_script(f"print {source};")[6:-1]
            self.check_expression(source, wanted)
            for text in (f"arrive {wanted};", f"repeat {wanted} {{}}", f"if {wanted} < 2 {{}}", f"if 1 < {wanted} {{}}",
                         f"let x = {wanted};", f"arrive 1;\narrive {wanted};\narrive 2;",
                         f"repeat 2 {{\n  arrive {wanted};\n}}", f"repeat {wanted} {{\n  arrive 1;\n}}",
                         f"repeat 3 {{\n  let x = {wanted};\n}}", f"if x < 1 {{\n  let y = {wanted};\n}}"):
                self.check(text, text)
                if not text.startswith("if x"):
                    self.assertIn(run_script(SMALL, EMPTY, text, 100)[3], ("division", "overflow"))
        self.check("print 3 - (1 + 1 div (1 - 1)) * (2 + 2);", "print 3 - (1 + 1 div 0) * 4;")
        self.check("repeat 0 { print 1 div 0; } print 5;", "print 5;")

    def test_arrive(self):
        self.check("arrive 0;", "")
        self.check("arrive -0;", "")
        self.check("arrive 2 - 2; print 1;", "print 1;")
        self.check("arrive 2;", "arrive 2;")
        self.check("arrive 2; arrive 3;", "arrive 5;")
        self.check("arrive 2; arrive 0; arrive 3;", "arrive 5;")
        self.check("arrive 1; arrive 2; arrive 3; arrive 4;", "arrive 10;")
        self.check("arrive 1; print next; arrive 2; arrive 3;", "arrive 1;\nprint next;\narrive 5;")
        self.check("arrive x; arrive 1; arrive 2; arrive x;", "arrive x;\narrive 3;\narrive x;")
        self.check("repeat x { arrive 1; arrive 2; }", "repeat x {\n  arrive 3;\n}")
        self.check("if x < 1 { arrive 1; arrive 2; } else { arrive 0; arrive 3; }",
                   "if x < 1 {\n  arrive 3;\n} else {\n  arrive 3;\n}")
        self.check("if x < 1 { arrive 0; } else { arrive 0; }", "if x < 1 {}")
        self.check("arrive 1; repeat x { arrive 2; } arrive 3;", "arrive 1;\nrepeat x {\n  arrive 2;\n}\narrive 3;")

    def test_arrive_of_nineteen_digits(self):
        self.check(f"arrive {NINES}; arrive 1;", f"arrive {NINES};\narrive 1;")
        self.check(f"arrive {NINES - 1}; arrive 1;", f"arrive {NINES};")
        self.check(f"arrive {NINES - 1}; arrive 1; arrive 1; arrive 1;", f"arrive {NINES};\narrive 2;")
        self.check(f"arrive 5; arrive {NINES}; arrive 5; arrive 6;", f"arrive 5;\narrive {NINES};\narrive 11;")
        self.check(f"arrive {HALF}; arrive {HALF}; arrive {HALF - 1};", f"arrive {HALF};\narrive {NINES};")
        self.check(f"arrive 3; repeat 1 {{ arrive {NINES - 2}; arrive 5; }} arrive 4;",
                   f"arrive 3;\narrive {NINES - 2};\narrive 9;")

    def test_negative_constants(self):
        self.check("arrive -1;", "arrive -1;")
        self.check("arrive 2; arrive -1; arrive 3;", "arrive 2;\narrive -1;\narrive 3;")
        self.check("arrive 1 - 2; arrive 5;", "arrive -1;\narrive 5;")
        self.check("repeat -1 {}", "repeat -1 {}")
        self.check("repeat -1 { arrive 4; }", "repeat -1 {\n  arrive 4;\n}")
        self.check("repeat 1 - 3 { arrive 4; }", "repeat -2 {\n  arrive 4;\n}")
        self.check("repeat -2 { arrive -4; }", "repeat -2 {\n  arrive -4;\n}")
        self.check("repeat 3 { arrive -4; }", "repeat 3 {\n  arrive -4;\n}")
        self.check("repeat 1 { arrive -4; }", "arrive -4;")
        for source in ("arrive -1; print 2;", "repeat -1 {} print 2;", "repeat 3 { arrive -4; print 2; }"):
            self.assertEqual(run_script(SMALL, EMPTY, optimize_script(source), 10), ([], SMALL, EMPTY, "count"))

    def test_repeat(self):
        self.check("repeat 0 { print 1; }", "")
        self.check("repeat 3 - 3 { print 1; }", "")
        self.check("repeat 1 { print 1; print 2; }", "print 1;\nprint 2;")
        self.check("repeat 1 {}", "")
        self.check("repeat 5 {}", "")
        self.check(f"repeat {NINES} {{}}", "")
        self.check("repeat x {}", "repeat x {}")
        self.check("repeat 2 { print 1; }", "repeat 2 {\n  print 1;\n}")
        self.check("repeat 3 { arrive 4; }", "arrive 12;")
        self.check("repeat 3 { arrive 0; }", "")
        self.check("repeat 3 { arrive x; }", "repeat 3 {\n  arrive x;\n}")
        self.check("repeat x { arrive 4; }", "repeat x {\n  arrive 4;\n}")
        self.check("repeat 3 { arrive 4; print 1; }", "repeat 3 {\n  arrive 4;\n  print 1;\n}")
        self.check("repeat 2 { repeat 3 { arrive 4; } arrive 5; }", "arrive 34;")
        self.check("repeat 2 { repeat 3 { repeat 4 {} } }", "")
        self.check("arrive 1; repeat 2 { arrive 3; } arrive 4;", "arrive 11;")
        self.check("arrive 1; repeat 1 { arrive 2; print 3; arrive 4; } arrive 5;", "arrive 3;\nprint 3;\narrive 9;")
        self.check("repeat 2 { repeat 1 { repeat 1 { print 1; } } }", "repeat 2 {\n  print 1;\n}")

    def test_repeat_of_nineteen_digits(self):
        self.check(f"repeat 2 {{ arrive {HALF}; }}", f"repeat 2 {{\n  arrive {HALF};\n}}")
        self.check(f"repeat 2 {{ arrive {HALF - 1}; }}", f"arrive {BIG - 2};")
        self.check(f"repeat {NINES} {{ arrive 1; }}", f"arrive {NINES};")
        self.check(f"repeat {NINES} {{ arrive 2; }}", f"repeat {NINES} {{\n  arrive 2;\n}}")
        self.check(f"repeat {HALF} {{ arrive 2; }}", f"repeat {HALF} {{\n  arrive 2;\n}}")
        self.check("repeat 1000000000 { repeat 1000000000 { arrive 1; } }",
                   "repeat 1000000000 {\n  arrive 1000000000;\n}")
        self.check(f"repeat 2 {{ arrive {NINES}; arrive {NINES}; }}",
                   f"repeat 2 {{\n  arrive {NINES};\n  arrive {NINES};\n}}")

    def test_if(self):
        for sign, below, equal, above in (
                ("<", 1, 2, 2), ("<=", 1, 1, 2), ("=", 2, 1, 2), ("!=", 1, 2, 1), (">=", 2, 1, 1), (">", 2, 2, 1)):
            for left, right, wanted in (
                    ("3", "4", below), ("-4", "-3", below), ("-1", "0", below), ("2 + 2", "8 div 2", equal), ("0", "-0", equal),
                    ("-2", "1 - 3", equal), ("9", "1", above)):
                self.check(f"if {left} {sign} {right} {{ print 1; }} else {{ print 2; }}", f"print {wanted};")
                self.check(f"if {left} {sign} {right} {{ print 1; }}", "print 1;" if wanted == 1 else "")
        self.check("if x < 1 {}", "if x < 1 {}")
        self.check("if 1 < x { print 1 + 1; } else {}", "if 1 < x {\n  print 2;\n}")
        self.check("if x = x {} else { if 1 < 2 {} else { print 1; } }", "if x = x {}")
        self.check("arrive 1; if 1 < 2 { arrive 2; print 3; arrive 4; } arrive 5;", "arrive 3;\nprint 3;\narrive 9;")
        self.check("if 1 < 2 {} else { print 1; }", "")

    def test_let(self):
        self.check("let x = 1;", "")
        self.check("let x = -1;", "")
        self.check("let x = 2 * 3;", "")
        self.check("let x = 1; print x;", "let x = 1;\nprint x;")
        self.check("let x = 1 + 2; print x;", "let x = 3;\nprint x;")
        # Where it is read does not matter.
        self.check("if finished(b) > 0 { print x; } let x = 1;", "if finished(b) > 0 {\n  print x;\n}\nlet x = 1;")
        self.check("let x = 1; let x = 2; print x + x;", "let x = 1;\nlet x = 2;\nprint x + x;")
        self.check("let x = y;", "let x = y;")
        self.check("let x = queue(0);", "let x = queue(0);")
        self.check("let x = x;", "let x = x;")
        self.check("let x = 1; let y = x;", "let x = 1;\nlet y = x;")
        self.check("let x = 1; print queue(-(2 + x * 3));", "let x = 1;\nprint queue(-(2 + x * 3));")
        self.check("let x = 0; link 0, 0, station x + 1;", "let x = 0;\nlink 0, 0, station x + 1;")
        self.check("let x = 0; link x, 0, port y; let y = 1;", "let x = 0;\nlink x, 0, port y;")
        self.check("let x = 0; link 0, x, port x;", "let x = 0;\nlink 0, x, port x;")
        self.check("let a = 1; print finished(a);", "print finished(a);")
        self.check("let x = 1; let y = 2; if x < next {} repeat 2 { if next > y {} }",
                   "let x = 1;\nlet y = 2;\nif x < next {}\nrepeat 2 {\n  if next > y {}\n}")
        self.check("let x = 2; repeat x {}", "let x = 2;\nrepeat x {}")
        for nested in ("repeat next {", "if next > 1 {", "if next > 1 {} else {"):
            self.check(f"let x = 2; {nested} print x; }}", f"let x = 2;\n{nested}\n  print x;\n}}")

    def test_what_goes_makes_room_for_more(self):
        self.check("let x = 1; repeat 0 { print x; }", "")
        self.check("let x = 1; if 2 < 1 { print x; } else { print 2; }", "print 2;")
        self.check("let x = 1; repeat 5 { if 1 = 2 { print x; } }", "")
        self.check("arrive 1; let x = 1; arrive 2;", "arrive 3;")
        self.check("arrive 1; repeat 0 { print x; } arrive 2;", "arrive 3;")
        self.check("arrive 1; if 2 < 1 { print x; } arrive 2;", "arrive 3;")
        self.check("arrive 1; let x = 1; arrive 2; repeat 0 { print x; }", "arrive 3;")
        self.check("repeat 3 { let x = 1; arrive 2; }", "arrive 6;")
        self.check("repeat 3 { let x = 1; arrive 2; repeat 0 { send x; } }", "arrive 6;")
        self.check("repeat 3 { let x = 1; repeat 0 { send x; } }", "")
        self.check("repeat 3 { repeat 2 { arrive 1; } if 1 < 2 { arrive 2; } arrive 3 - 3; }", "arrive 12;")
        self.check("let x = 1; repeat 1 - 1 { let y = x; } repeat 2 * 0 { print y; }", "")
        self.check("let y = 1; let x = 2; repeat 0 { print x + y; } let z = 1; if 1 > 2 { print z; }", "")
        self.check("if (1 + 1) * 2 = 4 { repeat 3 - 2 { print -(-(5)); } }", "print 5;")
        self.check("repeat 2 { repeat 1 { arrive 1; } repeat 1 { arrive 1; } }", "arrive 4;")

    def test_scripts_without_statements(self):
        for source in ("", "\n", "# nothing", " # one\n"):
            self.check(source, "")

    def test_finds_faults(self):
        # The check of the forms would tell them.
        for source in (
                "print 1 + 2;", "print x + (1 - 2);", "print -0;", "print --x;", "print --3;", "arrive 0;",
                "arrive 1; arrive 2;", "repeat x { arrive 1; arrive 2; }", "repeat 0 { print 1; }", "repeat 1 { print 1; }",
                "repeat 2 {}", "repeat 2 { arrive 1; }", "if 1 < 2 {}", "if -1 < 2 {}", "let x = 1;", "let x = -1;",
                "if x < 1 {} else { repeat 2 {} }", "link 0, 0, station 1 + 1;", "print queue(1 + 1);"):
            self.assertEqual(len(find_faults(source)), 1, source)
        for source in ("arrive -1;", "repeat -1 {}", "print 1 div 0;", "let x = 1; print x;", "print -3;", "print x - -3;"):
            self.assertEqual(find_faults(source), [], source)

    def test_repeated_calls(self):
        for _ in range(2):
            self.assertEqual(optimize_script("print 1 + 1;"), "print 2;")
            with self.assertRaises(ScriptSyntaxError) as caught:
                optimize_script("print 1 +;")
            self.assertEqual((caught.exception.row, caught.exception.column), (0, 9))

    def test_long_scripts(self):
        self.check("arrive 1;" * 2000, "arrive 2000;")
        self.check("print " + "+".join(["1"] * 2000) + ";", "print 2000;")
        self.check("print " + "+".join(["x"] * 500) + ";", "print " + " + ".join(["x"] * 500) + ";")
        self.check("print " + "-" * 501 + "x;", "print -x;")
        self.check("repeat 2 {" * 20 + "arrive 1;" + "}" * 20, f"arrive {2 ** 20};")


if __name__ == "__main__":
    unittest.main()
