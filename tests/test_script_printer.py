"""Tests of fullboats.script_printer: point 18, and point 1 as far as it speaks of it."""

import unittest

from fullboats.errors import ScriptSyntaxError
from fullboats.script_printer import format_script
from fullboats.script_runner import run_script
from plain import EMPTY, SMALL, random_cases
from plain_scripts import ScriptMaker, plain_parse, plain_tokens

SIGNS = ("+", "-", "*", "div", "mod")
CLOSE = ("*", "div", "mod")


class ScriptPrinterTest(unittest.TestCase):

    def check(self, source, wanted):
        with self.subTest(source=source):
            self.assertEqual(format_script(source), wanted)
            self.assertEqual(format_script(wanted), wanted)

    def check_expression(self, source, wanted):
        for head, tail in (("print ", ";"), ("repeat ", " {}"), ("if 1 = ", " {}"), ("let x = ", ";")):
            self.check(head + source + tail, head + wanted + tail)
        self.check(f"print 2 - queue({source});", f"print 2 - queue({wanted});")
        self.check(f"print (2 - ({source})) mod 3;", format_script(f"print (2 - ({wanted})) mod 3;"))

    def test_examples_of_the_document(self):
        self.check("if x<1{}else{print -(-x)*(2+3);}", "if x < 1 {} else {\n  print --x * (2 + 3);\n}")
        for source, row, column in (("arrive 01;", 0, 7), ("arrive 1", 1, 0)):
            with self.assertRaises(ScriptSyntaxError) as caught:
                format_script(source)
            self.assertEqual((caught.exception.row, caught.exception.column), (row, column))
        self.check_expression("(a + b) + c", "a + b + c")
        self.check_expression("a + (b + c)", "a + (b + c)")

    def test_every_statement(self):
        self.check("  arrive   1 ;", "arrive 1;")
        self.check("send\n2;", "send 2;")
        self.check("leave 3;print 4;", "leave 3;\nprint 4;")
        self.check("link 1,2,port  a;", "link 1, 2, port a;")
        self.check("link(1),(2+3),station(4);", "link 1, 2 + 3, station 4;")
        self.check("let x=5;", "let x = 5;")
        self.check("repeat x{print 1;}", "repeat x {\n  print 1;\n}")
        self.check("if x<1{print 1;}", "if x < 1 {\n  print 1;\n}")
        self.check("if x<1{print 1;}else{print 2;}", "if x < 1 {\n  print 1;\n} else {\n  print 2;\n}")

    def test_comparisons(self):
        for sign in ("<", "<=", "=", "!=", ">=", ">"):
            self.check(f"if x{sign}-y{{}}", f"if x {sign} -y {{}}")
            self.check(f"if (x) {sign}\n((y)+1) {{}}", f"if x {sign} y + 1 {{}}")

    def test_empty_blocks(self):
        self.check("", "")
        self.check("repeat 2 { }", "repeat 2 {}")
        self.check("repeat 2 { # nothing\n}", "repeat 2 {}")
        self.check("if x < 1 {\n}", "if x < 1 {}")
        self.check("if x < 1 {} else {}", "if x < 1 {}")
        self.check("if x < 1 {print 1;} else {\n\n}", "if x < 1 {\n  print 1;\n}")
        self.check("if x < 1 {} else {print 1;}", "if x < 1 {} else {\n  print 1;\n}")
        self.check("repeat 1 { repeat 2 {} repeat 3 {} }", "repeat 1 {\n  repeat 2 {}\n  repeat 3 {}\n}")
        self.check("if 1 < 2 { if 3 < 4 {} else {} } else { repeat 5 {} }",
                   "if 1 < 2 {\n  if 3 < 4 {}\n} else {\n  repeat 5 {}\n}")

    def test_nested_blocks(self):
        self.check(
            "repeat 2{if x<1{repeat 3{print 1;}print 2;}else{if y<1{print 3;}else{print 4;}}print 5;}print 6;",
            "repeat 2 {\n"
            "  if x < 1 {\n"
            "    repeat 3 {\n"
            "      print 1;\n"
            "    }\n"
            "    print 2;\n"
            "  } else {\n"
            "    if y < 1 {\n"
            "      print 3;\n"
            "    } else {\n"
            "      print 4;\n"
            "    }\n"
            "  }\n"
            "  print 5;\n"
            "}\n"
            "print 6;")

    def test_comments_go(self):
        self.check("# one\nprint 1; # two\n# three\nrepeat 2 { # four\n  # five\n  print 2; } # six",
                   "print 1;\nrepeat 2 {\n  print 2;\n}")

    def test_operands(self):
        self.check_expression("((((1))))", "1")
        self.check_expression("( x )", "x")
        self.check_expression("(next)", "next")
        self.check_expression("queue ( (x) )", "queue(x)")
        self.check_expression("queue((1+2)*3)", "queue((1 + 2) * 3)")
        self.check_expression("(queue(1+(2)))", "queue(1 + 2)")
        self.check_expression("finished ( a )", "finished(a)")
        self.check_expression("(finished(a))", "finished(a)")
        self.check_expression("0", "0")

    def test_each_pair_of_operators(self):
        for one in SIGNS:
            for other in SIGNS:
                same = (one in CLOSE) == (other in CLOSE)
                # On the left only a looser operator needs them, on the right one as loose, too.
                left = f"(a {one} b)" if one not in CLOSE and other in CLOSE else f"a {one} b"
                self.check_expression(f"(a {one} b) {other} c", f"{left} {other} c")
                right = f"(b {other} c)" if same or one in CLOSE else f"b {other} c"
                self.check_expression(f"a {one} (b {other} c)", f"a {one} {right}")
                self.check_expression(f"a{' ' * one.isalpha()}{one} b {other}\nc", f"a {one} b {other} c")

    def test_minus(self):
        self.check_expression("- x", "-x")
        self.check_expression("- - x", "--x")
        self.check_expression("-(-(-x))", "---x")
        self.check_expression("-(x)", "-x")
        self.check_expression("(-x)", "-x")
        self.check_expression("-(5)", "-5")
        self.check_expression("- 0", "-0")
        self.check_expression("-queue(-1)", "-queue(-1)")
        self.check_expression("-(next)", "-next")
        self.check_expression("-(finished(a))", "-finished(a)")
        for sign in SIGNS:
            self.check_expression(f"-(a {sign} b)", f"-(a {sign} b)")
            self.check_expression(f"-(-(a {sign} b))", f"--(a {sign} b)")
            self.check_expression(f"(-a) {sign} b", f"-a {sign} b")
            self.check_expression(f"- a {sign} b", f"-a {sign} b")
            self.check_expression(f"a {sign} (-b)", f"a {sign} -b")
            self.check_expression(f"a {sign} - b", f"a {sign} -b")
            self.check_expression(f"a {sign} (-(-b))", f"a {sign} --b")
            self.check_expression(f"-(-a) {sign} -(-b)", f"--a {sign} --b")
            self.check_expression(f"(-(a {sign} b)) {sign} c", f"-(a {sign} b) {sign} c")

    def test_chains(self):
        self.check_expression("((a + b) + c) + d", "a + b + c + d")
        self.check_expression("(a + b) + (c + d)", "a + b + (c + d)")
        self.check_expression("a - (b - (c - d))", "a - (b - (c - d))")
        self.check_expression("a - ((b - c) - d)", "a - (b - c - d)")
        self.check_expression("(a * b) + (c * d)", "a * b + c * d")
        self.check_expression("(a + b) * (c + d)", "(a + b) * (c + d)")
        self.check_expression("((a * b) div c) * (d)", "a * b div c * d")
        self.check_expression("(a div b) mod (c div d)", "a div b mod (c div d)")
        self.check_expression("((a + b) * c) + d", "(a + b) * c + d")
        self.check_expression("(((a) + (b * c)) - ((d)))", "a + b * c - d")

    def test_made_scripts_keep_their_meaning(self):
        for seed in range(1500):
            source = ScriptMaker(seed).script(3)
            text = format_script(source)
            with self.subTest(source=source):
                self.assertEqual(plain_parse(text), plain_parse(source))
                self.assertEqual(format_script(text), text)

    def test_made_scripts_have_no_needless_parentheses(self):
        for seed in range(300):
            text = format_script(ScriptMaker(seed).script(2))
            tokens = [token for token, _ in plain_tokens(text)]
            opened = []
            for at, token in enumerate(tokens):
                if token == "(":
                    opened.append(at)
                if token == ")":
                    start = opened.pop()
                    if tokens[start - 1] in ("queue", "finished"):
                        continue
                    without = tokens[:start] + tokens[start + 1:at] + tokens[at + 1:]
                    with self.subTest(text=text, start=start):
                        self.assertNotEqual(plain_parse(" ".join(without)), plain_parse(text))

    def test_lines_of_made_scripts(self):
        for seed in range(500):
            text = format_script(ScriptMaker(seed).script(3))
            depth = 0
            with self.subTest(text=text):
                for line in text.split("\n"):
                    bare = line.strip(" ")
                    depth -= bare.startswith("}")
                    self.assertEqual(line, "  " * depth + bare)
                    depth += bare.endswith("{")
                    if text:
                        self.assertRegex(
                            bare, r"^((arrive|send|leave|print|link|let) [^;{}]*;|(repeat|if) [^;{}]* \{(\}( else \{)?)?"
                                  r"|\}( else \{)?)$")
                        self.assertNotIn("  ", bare)
                        for sign in ("<", "<=", "=", "!=", ">=", ">", "+", "*", "div", "mod"):
                            self.assertEqual(
                                bare.split(" ").count(sign), [token for token, _ in plain_tokens(bare)].count(sign))
                        self.assertNotRegex(bare, r"\( | \)| ;| ,|,(?! )")
                self.assertEqual(depth, 0)

    def test_formatted_scripts_run_as_they_did(self):
        for seed, (network, state) in enumerate(random_cases(181, 300, 4, 4)):
            source = ScriptMaker(seed).script(3)
            for limit in (3, 200):
                with self.subTest(source=source):
                    self.assertEqual(
                        run_script(network, state, format_script(source), limit),
                        run_script(network, state, source, limit))

    def test_repeated_calls(self):
        for _ in range(2):
            self.assertEqual(format_script("print(1);"), "print 1;")
            with self.assertRaises(ScriptSyntaxError):
                format_script("print(1;")
            self.assertEqual(run_script(SMALL, EMPTY, "print(1);", 5), ([1], SMALL, EMPTY, None))


if __name__ == "__main__":
    unittest.main()
