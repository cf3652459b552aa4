"""Tests of point 16: what a script is, and where a text stops being one."""

import random
import unittest

from fullboats.errors import ScriptSyntaxError
from fullboats.script_optimizer import optimize_script
from fullboats.script_printer import format_script
from fullboats.script_runner import run_script
from plain_scripts import KEYWORDS, PlainError, ScriptMaker, plain_parse

NETWORK = ((1, "a"), ("b", "c"))
STATE = (1, ((), ()))


def run(source):
    return run_script(NETWORK, STATE, source, 1000)


class ScriptSyntaxTest(unittest.TestCase):

    def check_fault(self, source, row, column):
        for function in (format_script, optimize_script, run):
            with self.subTest(source=source, function=function.__name__):
                with self.assertRaises(ScriptSyntaxError) as caught:
                    function(source)
                self.assertEqual((caught.exception.row, caught.exception.column), (row, column))

    def check_script(self, source, wanted):
        with self.subTest(source=source):
            self.assertEqual(format_script(source), wanted)

    def test_every_token(self):
        self.check_script(
            "arrive 1;send 2;leave 3;print 4;link 5,6,port port;link 7,8,station 9;let x=10+11-12*13 div 14 mod 15;"
            "repeat 16{}if 17<18{}if 19<=20{}if 21=22{}if 23!=24{}if 25>=26{}if 27>28{}else{print-(queue(29)+next);}"
            "print finished(x);",
            "arrive 1;\nsend 2;\nleave 3;\nprint 4;\nlink 5, 6, port port;\nlink 7, 8, station 9;\n"
            "let x = 10 + 11 - 12 * 13 div 14 mod 15;\nrepeat 16 {}\nif 17 < 18 {}\nif 19 <= 20 {}\nif 21 = 22 {}\n"
            "if 23 != 24 {}\nif 25 >= 26 {}\nif 27 > 28 {} else {\n  print -(queue(29) + next);\n}\n"
            "print finished(x);")

    def test_empty_scripts(self):
        for source in ("", " ", "\n", "\n\n  \n", "# nothing", "#", "# one\n# two", " # one\n\n"):
            self.check_script(source, "")
            self.assertEqual(run(source), ([], NETWORK, STATE, None))

    def test_tokens_are_as_long_as_possible(self):
        self.check_script("if x<=y{}", "if x <= y {}")
        self.check_script("if x<-y{}", "if x < -y {}")
        self.check_script("if x>=y{}", "if x >= y {}")
        self.check_fault("if x< =y{}", 0, 6)
        self.check_fault("if x> =y{}", 0, 6)
        self.check_fault("if x<>y{}", 0, 5)
        self.check_fault("if x==y{}", 0, 5)
        self.check_fault("if x=<y{}", 0, 5)
        self.check_fault("if x<==y{}", 0, 6)
        self.check_fault("if x! =y{}", 0, 4)
        self.check_fault("if x!y{}", 0, 4)
        self.check_fault("print !", 0, 6)
        self.check_script("print abcdefgh;", "print abcdefgh;")
        self.check_fault("print abcdefghi;", 0, 6)
        self.check_fault("abcdefghijklmnopqrstuvwxyz", 0, 0)
        self.check_fault("arrivex 1;", 0, 0)
        self.check_fault("print1;print printx;printprint;", 0, 20)
        self.check_script("print 1mod 2;", "print 1 mod 2;")
        self.check_fault("print 1modx;", 0, 7)
        self.check_fault("letx = 1;", 0, 0)

    def test_numbers(self):
        self.check_script("print 0;", "print 0;")
        self.check_script("print " + "9" * 18 + ";", "print " + "9" * 18 + ";")
        self.check_script("print " + "1" + "0" * 17 + ";", "print 100000000000000000;")
        self.check_fault("print " + "1" * 19 + ";", 0, 6)
        self.check_fault("print 00;", 0, 6)
        self.check_fault("print 01;", 0, 6)
        self.check_fault("print 1 + 007;", 0, 10)
        self.check_fault("print " + "0" * 19 + ";", 0, 6)
        self.check_fault("print 0" + "1" * 17 + ";", 0, 6)
        self.check_fault("print 12ab;", 0, 8)
        self.check_fault("print ab12;", 0, 8)
        self.check_fault("let x1 = 2;", 0, 5)
        self.check_fault("print 1 2;", 0, 8)
        self.check_fault("print 1_000;", 0, 7)
        self.check_fault("print 1.5;", 0, 7)

    def test_characters_that_begin_no_token(self):
        for letter in "%\t\r\v\f\"'$&./:?@[\\]^_`|~ABZ\x00\x7f\xa0\xe9\u0660\u2028\U0001d7d9":
            self.check_fault(letter, 0, 0)
            self.check_fault("print 1;\n  print x" + letter + ";", 1, 9)
            self.check_fault("print 1; " + letter, 0, 9)

    def test_characters_that_no_script_has_in_comments(self):
        self.check_script("print 1; # .:$&?@A~[]_`!\"'\\ 007 abcdefghijk ### }{", "print 1;")
        for letter in "%\t\r\x00\x7f\xe9\u2028":
            self.check_fault("print 1; # 100" + letter + "\nprint 2;", 0, 14)
            self.check_fault("#" + letter, 0, 1)

    def test_comments(self):
        self.check_script("print 1; # the end", "print 1;")
        self.check_script("print 1; # the end\n", "print 1;")
        self.check_script("#a\nprint#b\n1#c\n;#d\n#e\nprint 2;#", "print 1;\nprint 2;")
        self.check_script("print 1;#print 2;\nprint 3;#print 4;\n", "print 1;\nprint 3;")
        self.check_fault("print 1 # ;", 1, 0)
        self.check_fault("print 1 # ;\n", 2, 0)
        self.check_fault("# one\n # two\n ! # three", 2, 1)
        self.check_fault("print # one\n }", 1, 1)

    def test_spaces_and_line_feeds_between_tokens(self):
        wanted = "if x < 1 {\n  print queue(2);\n} else {\n  let y = -3;\n}"
        tokens = "if x < 1 { print queue ( 2 ) ; } else { let y = - 3 ; }".split()
        for gap in (" ", "\n", "  ", " \n\n ", "\n#\n"):
            self.check_script(gap + gap.join(tokens) + gap, wanted)
        self.check_fault("if x ! = 1 {}", 0, 5)
        self.check_fault("pri nt 1;", 0, 0)
        self.check_fault("print 1;\npri\nnt 1;", 1, 0)
        self.check_fault("if x <\n= 1 {}", 1, 0)

    def test_key_words_where_names_belong(self):
        for word in KEYWORDS:
            self.check_fault(f"let {word} = 1;", 0, 4)
            if word not in ("queue", "finished", "next"):
                self.check_fault(f"print {word};", 0, 6)
                self.check_fault(f"print x + {word};", 0, 10)
        self.check_fault("print queue;", 0, 11)
        self.check_fault("print finished;", 0, 14)
        self.check_fault("print next(1);", 0, 10)
        self.check_fault("print queue();", 0, 12)
        self.check_fault("print finished();", 0, 15)
        self.check_fault("print finished(1);", 0, 15)
        self.check_fault("print finished(x + 1);", 0, 17)
        self.check_fault("print x(1);", 0, 7)

    def test_any_word_as_a_port(self):
        for word in KEYWORDS + ["x", "abcdefgh"]:
            self.check_script(f"print finished({word});", f"print finished({word});")
            self.check_script(f"link 0, 0, port {word};", f"link 0, 0, port {word};")

    def test_names_where_key_words_belong(self):
        self.check_fault("x = 1;", 0, 0)
        self.check_fault("go 1;", 0, 0)
        self.check_fault("div 1;", 0, 0)
        self.check_fault("else {}", 0, 0)
        self.check_fault("link 0, 0, a;", 0, 11)
        self.check_fault("link 0, 0, 1;", 0, 11)
        self.check_fault("print 1 x 2;", 0, 8)
        self.check_fault("if x < 1 {} other {}", 0, 12)
        self.check_fault("repeat 2 do {}", 0, 9)

    def test_tokens_that_do_not_fit(self):
        for source, row, column in (
                ("}", 0, 0), (";", 0, 0), ("print 1;;", 0, 8), ("print ;", 0, 6), ("print 1 }", 0, 8), ("{}", 0, 0),
                ("print (1;", 0, 8), ("print 1);", 0, 7), ("print ();", 0, 7), ("print 1 +;", 0, 9), ("1;", 0, 0),
                ("print + 1;", 0, 6), ("print * 1;", 0, 6), ("print 1 * + 2;", 0, 10), ("print 1 - - + 2;", 0, 12),
                ("print 1, 2;", 0, 7), ("link 1;", 0, 6), ("link 1, 2;", 0, 9), ("link 1, 2, port 3;", 0, 16),
                ("link 1, 2, port a + 1;", 0, 18), ("link 1, 2, station;", 0, 18), ("link, 1", 0, 4),
                ("let x 1;", 0, 6), ("let 1 = 2;", 0, 4), ("let x == 1;", 0, 7), ("let x = 1 = 2;", 0, 10),
                ("let x <= 1;", 0, 6), ("repeat {}", 0, 7), ("repeat 2;", 0, 8), ("repeat 2 {};", 0, 11),
                ("repeat 2 print 1;", 0, 9), ("repeat 2 { print 1 }", 0, 19), ("repeat 2 {} else {}", 0, 12),
                ("if x {}", 0, 5), ("if x < {}", 0, 7), ("if x < 1 < 2 {}", 0, 9), ("if < 1 {}", 0, 3),
                ("if (x < 1) {}", 0, 6), ("if x < 1 {} else print 1;", 0, 17), ("if x < 1 else {}", 0, 9),
                ("if x < 1 {} else {} else {}", 0, 20), ("if x < 1 {} else if y < 2 {}", 0, 17),
                ("if x < 1 {\n print 1;\n}}", 2, 1), ("print 1;\n\n   print\n  print 2;", 3, 2)):
            self.check_fault(source, row, column)

    def test_scripts_that_end_too_early(self):
        for source in ("print", "print 1", "print 1 +", "print -", "print (", "print (1", "print queue", "print queue(",
                       "print finished(", "print finished(a", "let", "let x", "let x =", "link", "link 1", "link 1,",
                       "link 1, 2", "link 1, 2,", "link 1, 2, port", "link 1, 2, port a", "link 1, 2, station",
                       "repeat", "repeat 2", "repeat 2 {", "repeat 2 { print 1;", "repeat 2 { repeat 3 {}", "if",
                       "if x", "if x <", "if x < 1", "if x < 1 {", "if x < 1 {} else", "if x < 1 {} else {"):
            self.check_fault(source, 1, 0)
            self.check_fault(source + "\n", 2, 0)
            self.check_fault(source + "\n\n  \n", 4, 0)
            self.check_fault(source + "\n# and so on", 2, 0)
            self.check_fault("print 1;\n" + source, 2, 0)
            self.check_fault("\n" + source.replace(" ", "\n"), 2 + source.count(" "), 0)

    def test_no_token_comes_ahead_of_what_does_not_fit(self):
        for source, row, column in (
                ("} print 1; $", 0, 11), ("print print\n; x\n 01", 2, 1), ("print 1 +;\nabcdefghi", 1, 0),
                ("else\nelse\n\nprint " + "9" * 19, 3, 6), ("; ! 00 $", 0, 2), ("; 00 ! $", 0, 2), ("print\n\n\t", 2, 0),
                ("}#%", 0, 2)):
            self.check_fault(source, row, column)

    def test_nested_deeply(self):
        self.check_script("print " + "(" * 25 + "1" + ")" * 25 + ";", "print 1;")
        self.check_script("print " + "1+(" * 20 + "1" + ")" * 20 + ";", "print " + "1 + (" * 19 + "1 + 1" + ")" * 19 + ";")
        self.check_script("print " + "-(1+" * 20 + "1" + ")" * 20 + ";", "print " + "-(1 + " * 20 + "1" + ")" * 20 + ";")
        self.check_script("print " + "queue(" * 20 + "1" + ")" * 20 + ";", "print " + "queue(" * 20 + "1" + ")" * 20 + ";")
        self.check_script(
            "repeat 1 {" * 20 + "}" * 20, "\n".join(
                ["  " * depth + "repeat 1 {" for depth in range(19)] + ["  " * 19 + "repeat 1 {}"]
                + ["  " * depth + "}" for depth in reversed(range(19))]))
        self.check_fault("repeat 1 {" * 20 + "}" * 19, 1, 0)

    def test_long_scripts_and_expressions(self):
        self.check_script("print " + "+".join("1" * 3000) + ";", "print " + " + ".join("1" * 3000) + ";")
        self.check_script("print " + "*".join("1" * 3000) + ";", "print " + " * ".join("1" * 3000) + ";")
        self.check_script("print " + "-" * 3000 + "x;", "print " + "-" * 3000 + "x;")
        self.check_script("print 1;" * 3000, "\n".join(["print 1;"] * 3000))
        self.assertEqual(run("print " + "1+" * 3000 + "-" * 3001 + "1;")[0], [2999])

    def test_changed_scripts_against_a_plain_reader(self):
        chooser = random.Random(161)
        pieces = ["{", "}", "(", ")", ";", ",", "+", "-", "*", "<", "<=", "=", "!", ">", "0", "12", "$", "%", "#", "\n",
                  " ", "x", "A", "\t", " if ", " else ", " next ", " print ", "port ", " queue", " link ", "9" * 18]
        wrong = 0
        for seed in range(1500):
            source = ScriptMaker(seed).script(1, 4)
            for _ in range(chooser.randint(1, 2)):
                start = chooser.randint(0, len(source))
                source = source[:start] + chooser.choice(pieces + [""]) + source[start + chooser.randrange(4):]
            try:
                plain_parse(source)
            except PlainError as error:
                wrong += 1
                with self.subTest(source=source):
                    with self.assertRaises(ScriptSyntaxError) as caught:
                        format_script(source)
                    self.assertEqual((caught.exception.row, caught.exception.column), error.args)
            else:
                with self.subTest(source=source):
                    self.assertEqual(plain_parse(format_script(source)), plain_parse(source))
        self.assertGreater(wrong, 500)
        self.assertLess(wrong, 1400)


if __name__ == "__main__":
    unittest.main()
