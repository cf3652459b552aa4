"""Tests of fullboats.script_runner: point 17, and point 1 as far as it speaks of it."""

import unittest

from fullboats.counting import count_finished
from fullboats.editing import leave, replace_seat, send_early
from fullboats.errors import InvalidCount, InvalidNetwork, InvalidState, ScriptSyntaxError
from fullboats.script_runner import run_script
from fullboats.tracing import advance
from plain import EMPTY, SMALL, random_cases
from plain_scripts import NINES, PlainScriptRun, ScriptMaker

NETWORK = ((1, "a"), ("b", "c"))
STATE = (1, ((), ()))
BIG = 10 ** 18


class ScriptRunnerTest(unittest.TestCase):

    def check_output(self, source, output, reason=None, network=NETWORK, state=STATE, limit=100000):
        """Run a script, check what it prints and why it stops, and return the network and the state."""
        found = run_script(network, state, source, limit)
        with self.subTest(source=source, limit=limit):
            self.assertEqual(found[0], output)
            self.assertEqual(found[3], reason)
        return found[1:3]

    def check_values(self, values, network=NETWORK, state=STATE):
        """Check the values of expressions, or the reasons why they stop the run."""
        for source, value in values.items():
            if isinstance(value, str):
                self.check_output(f"print 7; print {source}; print 8;", [7], value, network, state)
            else:
                self.check_output(f"print {source};", [value], None, network, state)

    def test_examples_of_the_document(self):
        source = "let x = 2; repeat x { arrive 2; print queue(1); } print finished(a);"
        self.assertEqual(run_script(NETWORK, STATE, source, 100), ([1, 0, 2], NETWORK, (5, ((), ())), None))
        self.assertEqual(
            run_script((("a",),), (1, ((),)), "print 7; print 1 div 0; print 8;", 100),
            ([7], (("a",),), (1, ((),)), "division"))
        self.assertEqual(
            run_script((("a",),), (1, ((),)), "repeat 5 { arrive 1; }", 4), ([], (("a",),), (2, ((),)), "steps"))

    def test_against_a_plain_run(self):
        reasons = {}
        for seed, (network, state) in enumerate(random_cases(171, 1500, 4, 4)):
            source = ScriptMaker(seed).script(3, 9)
            # A plain run takes its time for many arrivals.
            source = source.replace("99999999999999999", "")
            for limit in (0, 1, 5, 20, 60):
                run = PlainScriptRun(network, state, source, limit)
                reasons[run.reason] = reasons.get(run.reason, 0) + 1
                with self.subTest(network=network, state=state, source=source, limit=limit):
                    self.assertEqual(run_script(network, state, source, limit), run.result())
        for reason in (None, "steps", "undefined", "division", "count", "station", "empty", "passenger", "seat",
                       "network"):
            self.assertGreater(reasons[reason], 4, reason)

    def test_overflow_against_a_plain_run(self):
        stopped = 0
        for seed in range(1000):
            maker = ScriptMaker(seed, 0.9)
            source = "let x = " + maker.chooser.choice(["2", "0-3", str(NINES)]) + ";"
            for _ in range(4):
                source += "print " + maker.spread(maker.tree(4)) + ";"
            run = PlainScriptRun(SMALL, EMPTY, source, 100)
            stopped += run.reason == "overflow"
            with self.subTest(source=source):
                self.assertEqual(run_script(SMALL, EMPTY, source, 100), run.result())
        self.assertGreater(stopped, 100)

    def test_expressions(self):
        self.check_values({
            "0": 0, "-0": 0, "7": 7, "-7": -7, "--7": 7, "---7": -7, str(NINES): NINES, f"-{NINES}": -NINES,
            "1 + 2": 3, "1 - 2": -1, "5 - 2 - 1": 2, "5 - (2 - 1)": 4, "1 + 2 * 3": 7, "(1 + 2) * 3": 9,
            "2 * 3 + 4 * 5": 26, "20 div 2 div 5": 2, "20 div (2 div 5)": "division", "20 - 6 div 4": 19,
            "7 mod 4 * 2": 6, "7 mod (4 * 2)": 7, "2 * 7 mod 4": 2, "2 * (7 mod 4)": 6, "-2 * 3": -6, "2 * -3": -6,
            "2 - -3": 5, "-(2 + 3)": -5, "-2 - 3": -5, "-7 mod 4": 1, "-(7 mod 4)": -3})

    def test_division_of_negative_numbers(self):
        self.check_values({
            "7 div 2": 3, "-7 div 2": -4, "7 div -2": -4, "-7 div -2": 3, "6 div 2": 3, "-6 div 2": -3, "6 div -2": -3,
            "7 mod 2": 1, "-7 mod 2": 1, "7 mod -2": -1, "-7 mod -2": -1, "6 mod -2": 0, "-6 mod 4": 2, "6 mod -4": -2,
            "0 div 5": 0, "0 mod 5": 0, "1 div 5": 0, "-1 div 5": -1, "-1 mod 5": 4, "1 div -5": -1, "1 mod -5": -4,
            "1 div 0": "division", "1 mod 0": "division", "0 div 0": "division", "0 mod 0": "division",
            "-1 div (2 - 2)": "division", "1 mod (1 - 1)": "division"})

    def test_results_of_eighteen_and_nineteen_digits(self):
        half = 5 * 10 ** 17
        self.check_values({
            f"{NINES} + 0": NINES, f"{NINES - 1} + 1": NINES, f"{NINES} + 1": "overflow", f"{NINES} - 1": NINES - 1,
            f"-{NINES} - 0": -NINES, f"1 - {NINES}": 1 - NINES, f"-{NINES} - 1": "overflow", f"-1 - {NINES}": "overflow",
            f"-{NINES} + -1": "overflow", f"{NINES} - -1": "overflow", f"{NINES} * 1": NINES, f"{NINES} * -1": -NINES,
            f"{half} * 2": "overflow", f"{half - 1} * 2": BIG - 2, f"{half} * -2": "overflow",
            f"-{half - 1} * 2": 2 - BIG, "1000000000 * 1000000000": "overflow", "999999999 * 1000000000": BIG - 10 ** 9,
            f"{NINES} * {NINES}": "overflow", f"{NINES} * 0": 0, f"{NINES} + 1 - 1": "overflow",
            f"{NINES} - 1 + 1": NINES, f"{NINES} div 1": NINES, f"{NINES} div -1": -NINES, f"-{NINES} div 1": -NINES,
            f"{half} + {half}": "overflow", f"{half} + {half - 1}": NINES, f"-{half} - {half}": "overflow",
            f"2 * {half} - 1": "overflow", f"--{NINES}": NINES})

    def test_mod_only_counts_by_its_result(self):
        # The product of the quotient and the divisor has nineteen digits.
        self.check_values({
            f"-{NINES} mod 2": 1, f"-{NINES} mod 7": -NINES - (-NINES // 7 * 7), f"-{NINES} mod {NINES - 1}": NINES - 2,
            f"{NINES} mod -{NINES - 1}": 2 - NINES, f"-1 mod {NINES}": NINES - 1, f"1 mod -{NINES}": 1 - NINES,
            f"{NINES} mod {NINES}": 0, f"{NINES} mod 1": 0})

    def test_names(self):
        self.check_output("let x = 1; print x; let x = x + 1; print x; let y = x * x; print y - x;", [1, 2, 2])
        self.check_output("print x;", [], "undefined")
        self.check_output("let x = x;", [], "undefined")
        self.check_output("let x = 1; print y;", [], "undefined")
        self.check_output("repeat 1 { let x = 3; } print x;", [3])
        self.check_output("if 1 < 2 { let x = 3; } else { let y = 4; } print x; print y;", [3], "undefined")
        self.check_output("let x = 5; let x = y; print 1;", [], "undefined")
        self.check_output("let a = 5; arrive 2; print a; print finished(a);", [5, 1])

    def test_queue_next_and_finished(self):
        state = (9, ((4,), (7, 5)))
        network = ((1, "a"), ("b", "c", "b"))
        self.check_values({
            "queue(0)": 1, "queue(1)": 2, "queue(2)": "station", "queue(-1)": "station", "queue(queue(0))": 2,
            "queue(40)": "station", f"queue({NINES})": "station", "next": 9, "next * next": 81, "finished(a)": 0,
            "finished(b)": 0, "finished(nowhere)": 0, "finished(queue)": 0, "queue(x)": "undefined",
            "queue(1 div 0)": "division", "queue(2 - 1)": 2}, network, state)
        self.check_output(
            "arrive 1; print next; print queue(0); print queue(1); print finished(a); print finished(b);"
            "print finished(c);", [10, 0, 0, 1, 2, 1], None, network, state)

    def test_finished_counts_from_the_beginning_of_the_run(self):
        self.check_output("print finished(a);", [0], None, NETWORK, (30, ((7,), ())))
        self.check_output("arrive 1; print finished(a); print finished(b);", [1, 0], None, NETWORK, (30, ((7,), ())))
        self.check_output("send 1; print finished(b); print finished(c);", [1, 0], None, NETWORK, (30, ((7,), (8,))))
        self.check_output("arrive 1; send 0; print finished(b); print finished(c);", [1, 1], None, NETWORK,
                          (30, ((), (8,))))
        for _ in range(2):
            self.check_output("arrive 4; print finished(a);", [2])

    def test_arrive(self):
        for network, state in random_cases(172, 60):
            for count in (0, 1, 2, 7, 999, 1000, 1001, 5000, 10 ** 6, 10 ** 17, NINES - 500):
                source = f"arrive {count}; print finished(a); print finished(b); print next - {count};"
                counts = count_finished(network, state, count)
                output = [counts.get("a", 0), counts.get("b", 0), state[0]]
                with self.subTest(network=network, state=state, count=count):
                    self.assertEqual(
                        run_script(network, state, source, 9), (output, network, advance(network, state, count), None))

    def test_many_arrivals_after_one_another(self):
        for network, state in random_cases(173, 20):
            source = "repeat 30 { arrive 1; } arrive 700; arrive 1500; arrive 2; print finished(a); arrive 100000;"
            counts = count_finished(network, state, 2232)
            self.assertEqual(
                run_script(network, state, source, 100),
                ([counts.get("a", 0)], network, advance(network, state, 102232), None))

    def test_arrive_of_a_negative_number(self):
        for number in ("-1", f"-{NINES}", "0 - 1", "queue(0) - 2"):
            self.assertEqual(
                run_script(SMALL, (5, ((4,), (), ())), f"arrive {number}; print 1;", 10),
                ([], SMALL, (5, ((4,), (), ())), "count"))

    def test_next_of_nineteen_digits(self):
        for first, wanted in ((NINES, [NINES]), (BIG, []), (BIG + 5, []), (10 ** 30, [])):
            state = (first, ((), ()))
            self.check_output("print next;", wanted, None if wanted else "overflow", NETWORK, state)
            self.check_output("print next - 1;", [first - 1] if wanted else [], None if wanted else "overflow", NETWORK,
                              state)
        self.check_output(f"arrive {NINES - 1}; print next; arrive 1; print 2; print next;", [NINES, 2], "overflow")
        after = self.check_output(f"repeat 3 {{ arrive {NINES}; }} print next;", [], "overflow")
        state = STATE
        for _ in range(3):
            state = advance(NETWORK, state, NINES)
        self.assertEqual(after, (NETWORK, state))

    def test_finished_of_nineteen_digits(self):
        network = (("a",),)
        source = f"arrive {NINES}; print finished(a); arrive 1; print finished(b); print finished(a);"
        found = run_script(network, (1, ((),)), source, 10)
        self.assertEqual(found, ([NINES, 0], network, (BIG + 1, ((),)), "overflow"))

    def test_send(self):
        for network, state in random_cases(174, 150):
            for station, queue in enumerate(state[1]):
                source = f"print 1; send {station}; print finished(a); print finished(b);"
                with self.subTest(network=network, state=state, station=station):
                    if queue:
                        after, finished = send_early(network, state, station)
                        places = [port for port, _ in finished]
                        wanted = ([1, places.count("a"), places.count("b")], network, after, None)
                    else:
                        wanted = ([1], network, state, "empty")
                    self.assertEqual(run_script(network, state, source, 10), wanted)
        for station in ("3", "-1", "40", str(NINES), f"-{NINES}"):
            self.assertEqual(run_script(SMALL, EMPTY, f"send {station};", 10), ([], SMALL, EMPTY, "station"))

    def test_leave(self):
        state = (9, ((4,), (7, 5)))
        network = ((1, "a"), ("b", "c", "b"))
        for passenger in (4, 5, 7):
            self.assertEqual(
                run_script(network, state, f"leave {passenger}; print queue(1);", 10),
                ([2 if passenger == 4 else 1], network, leave(network, state, passenger), None))
        for passenger in ("1", "0", "-4", "8", "9", "next", str(NINES)):
            self.assertEqual(
                run_script(network, state, f"leave {passenger}; print 1;", 10), ([], network, state, "passenger"))
        self.check_output("arrive 1; leave next - 1; print queue(0); leave next - 1;", [0], "passenger")

    def test_link(self):
        changed = replace_seat(SMALL, 0, 2, 2)
        self.assertEqual(
            run_script(SMALL, EMPTY, "link 0, 2, station 2; arrive 3; print queue(2);", 10),
            ([1], changed, advance(changed, EMPTY, 3), None))
        changed = replace_seat(SMALL, 2, 1, "d")
        self.assertEqual(
            run_script(SMALL, EMPTY, "link 1 + 1, 2 - 1, port d; arrive 6; print finished(d);", 10),
            ([1], changed, advance(changed, EMPTY, 6), None))
        for word in ("link", "port", "station", "abcdefgh"):
            self.assertEqual(
                run_script(SMALL, EMPTY, f"link 0, 0, port {word}; arrive 3; print finished({word});", 10),
                ([1], replace_seat(SMALL, 0, 0, word), (4, ((), (3,), ())), None))
        for parts, reason in (
                ("3, 0, port a", "station"), ("-1, 0, port a", "station"), ("3, 9, station 0", "station"),
                ("0, 3, port a", "seat"), ("0, -1, port a", "seat"), ("1, 2, station 0", "seat"),
                ("0, 0, station 0", "network"), ("1, 0, station 1", "network"), ("1, 0, station 0", "network"),
                ("0, 0, station 3", "network"), ("0, 0, station -1", "network"), (f"0, 0, station {NINES}", "network")):
            self.assertEqual(
                run_script(SMALL, EMPTY, f"link 0, 1, port x; link {parts}; print 1;", 10),
                ([], replace_seat(SMALL, 0, 1, "x"), EMPTY, reason))

    def test_order_in_which_parts_are_evaluated(self):
        self.check_values({
            "x + 1 div 0": "undefined", "1 div 0 + x": "division", "queue(9) * x": "station", "x * queue(9)": "undefined",
            f"{NINES} + 1 + x": "overflow", f"{NINES} + 1 * x": "undefined", f"{NINES} + (1 + x)": "undefined",
            f"x - {NINES} * 2": "undefined", f"{NINES} * 2 - x": "overflow", "x div 0": "undefined", "x mod 0": "undefined",
            "1 div 0 div x": "division", "queue(x) div 0": "undefined", "-(1 div 0) - x": "division",
            "queue(queue(9) + x)": "station", "1 mod 0 * x": "division"})
        for parts, reason in (
                ("1 div 0, x, port a", "division"), ("x, 1 div 0, port a", "undefined"), ("9, x, port a", "undefined"),
                ("9, 1 div 0, station x", "division"), ("9, 9, station x", "undefined"), ("0, 9, station x", "undefined"),
                ("9, 9, station 0", "station"), ("0, 9, station 0", "seat"), ("queue(9), x, port a", "station")):
            self.check_output(f"link {parts};", [], reason)
        self.check_output("if x < 1 div 0 { print 1; }", [], "undefined")
        self.check_output("if 1 div 0 < x { print 1; }", [], "division")
        self.check_output("repeat 1 div 0 { print x; }", [], "division")
        self.check_output("arrive 1 div 0 - 5;", [], "division")

    def test_comparisons(self):
        for sign, below, equal, above in (
                ("<", 1, 2, 2), ("<=", 1, 1, 2), ("=", 2, 1, 2), ("!=", 1, 2, 1), (">=", 2, 1, 1), (">", 2, 2, 1)):
            for left, right, wanted in (
                    ("3", "4", below), ("-4", "-3", below), ("-1", "1", below), (f"-{NINES}", str(NINES), below),
                    ("3", "3", equal), ("0", "-0", equal), (str(NINES), str(NINES), equal), ("4", "3", above),
                    ("0", "-1", above)):
                self.check_output(f"if {left} {sign} {right} {{ print 1; }} else {{ print 2; }}", [wanted])
                self.check_output(f"if {left} {sign} {right} {{ print 1; }}", [1] if wanted == 1 else [])
                self.check_output(f"if {left} {sign} {right} {{}} else {{ print 2; }} print 3;",
                                  [2, 3] if wanted == 2 else [3])

    def test_repeat(self):
        self.check_output("repeat 3 { print next; arrive 1; }", [1, 2, 3])
        self.check_output("repeat 0 { print x; } print 1;", [1])
        self.check_output("repeat -0 { print x; } print 1;", [1])
        self.check_output("print 1; repeat -1 { print 2; } print 3;", [1], "count")
        self.check_output(f"repeat -{NINES} {{}}", [], "count")
        self.check_output("let x = 2; repeat x { let x = x * 3; print x; }", [6, 18])
        self.check_output("let x = 2; repeat x { let x = 0; print 1; } repeat x { print 2; }", [1, 1])
        self.check_output("repeat next { arrive 1; print next; }", [2])
        self.check_output("repeat 2 { repeat 3 { print finished(a); arrive 1; } print 9; }", [0, 0, 1, 9, 1, 2, 2, 9])
        self.check_output("arrive 1; repeat queue(0) { arrive 1; print queue(0); }", [0])

    def test_each_statement_and_each_block_is_a_step(self):
        for source, steps in (
                ("", 0), ("print 1;", 1), ("print 1; print 2;", 2), ("let x = 1;", 1), ("arrive 5;", 1), ("repeat 0 {}", 1),
                ("repeat 1 {}", 2), ("repeat 5 {}", 6), ("repeat 5 { print 1; }", 11), ("repeat 2 { repeat 3 {} }", 11),
                ("if 1 < 2 {}", 1), ("if 1 < 2 { print 1; }", 2), ("if 2 < 1 { print 1; }", 1),
                ("if 2 < 1 {} else { print 1; print 2; }", 3), ("arrive 1; leave 1;", 2), ("arrive 1; send 0;", 2),
                ("link 0, 0, port b;", 1), ("repeat 2 { if 1 < 2 { print 1; } }", 7), ("repeat 49999 { let x = 1; }", 99999),
                ("repeat 99999 {}", 100000)):
            for limit in {steps, steps + 1, 100000}:
                self.assertIsNone(run_script(NETWORK, STATE, source, limit if limit <= 100000 else steps)[3], source)
            if steps:
                self.assertEqual(run_script(NETWORK, STATE, source, steps - 1)[3], "steps", source)
        self.check_output("repeat 100000 {}", [], "steps")
        self.check_output(f"repeat {NINES} {{}}", [], "steps")
        self.check_output("repeat 50000 { let x = 1; }", [], "steps")

    def test_limits(self):
        source = "print 1; repeat 2 { print 2; arrive 1; } print 3;"
        for limit, output, next_passenger in (
                (0, [], 1), (1, [1], 1), (2, [1], 1), (3, [1], 1), (4, [1, 2], 1), (5, [1, 2], 2), (6, [1, 2], 2),
                (7, [1, 2, 2], 2), (8, [1, 2, 2], 3), (9, [1, 2, 2, 3], 3), (10, [1, 2, 2, 3], 3),
                (100000, [1, 2, 2, 3], 3)):
            found = run_script(NETWORK, STATE, source, limit)
            self.assertEqual((found[0], found[2][0], found[3]), (output, next_passenger, "steps" if limit < 9 else None))
        # A fault that is met at the last step that is left is told.
        self.check_output("print 1; print x; print 2;", [1], "undefined", limit=2)
        self.check_output("print 1; print x; print 2;", [1], "steps", limit=1)
        self.check_output("repeat -1 {}", [], "count", limit=1)
        self.check_output("repeat -1 {}", [], "steps", limit=0)
        self.check_output("", [], None, limit=0)
        self.check_output("# nothing", [], None, limit=0)

    def test_limits_that_there_are_not(self):
        for limit in (-1, 100001, -100000, BIG):
            for source in ("", "print 1;", "print x;"):
                with self.assertRaises(InvalidCount):
                    run_script(NETWORK, STATE, source, limit)

    def test_what_happened_before_remains(self):
        state = (4, ((3,), ()))
        for source, output, after, reason in (
                ("arrive 1; print 1 + x;", [], (5, ((), (3,))), "undefined"),
                ("print 5; arrive 1; send 0;", [5], (5, ((), (3,))), "empty"),
                ("repeat 3 { print queue(0); arrive 1; leave 4; }", [1], (5, ((), (3,))), "passenger"),
                ("arrive 1; repeat 3 { print queue(0); arrive 1; leave 5; }", [0, 0], (7, ((6,), (3,))), "passenger"),
                ("if 1 < 2 { arrive 1; print 3; print queue(2); print 4; } print 5;", [3], (5, ((), (3,))), "station"),
                ("repeat 2 { send 0; repeat 2 { arrive 2; print next; arrive 3 - next; } }", [6], (6, ((), ())), "count"),
                ("print 1; send 0; print 2; arrive 1 div 0; print 3;", [1, 2], (4, ((), (3,))), "division"),
                ("leave 3; print 1; leave 3; print 2;", [1], (4, ((), ())), "passenger")):
            with self.subTest(source=source):
                self.assertEqual(run_script(NETWORK, state, source, 100), (output, NETWORK, after, reason))

    def test_links_that_happened_before_remain(self):
        changed = (("d", "a"), ("b", "c"))
        self.assertEqual(
            run_script(NETWORK, STATE, "link 0, 0, port d; arrive 3; print finished(d); link 0, 0, station 0;", 100),
            ([1], changed, (4, ((3,), ())), "network"))
        self.assertEqual(
            run_script(NETWORK, STATE, "repeat 2 { arrive 1; link 1, 0, port d; }", 6),
            ([], (NETWORK[0], ("d", "c")), (3, ((), (1,))), "steps"))

    def test_order_of_the_errors(self):
        bad_network = (("a",), ("b", 1))
        with self.assertRaises(InvalidNetwork) as caught:
            run_script(bad_network, (0, ()), "print", -1)
        self.assertEqual((caught.exception.station, caught.exception.seat), (1, 1))
        with self.assertRaises(InvalidState):
            run_script(NETWORK, (0, ((), ())), "print", -1)
        with self.assertRaises(ScriptSyntaxError) as caught:
            run_script(NETWORK, STATE, "print", -1)
        self.assertEqual((caught.exception.row, caught.exception.column), (1, 0))
        with self.assertRaises(InvalidCount):
            run_script(NETWORK, STATE, "print 1 div 0;", -1)

    def test_arguments_stay_and_returned_lists_may_be_modified(self):
        network, state = ((1, "a"), ("b", "c")), (2, ((1,), ()))
        source = "print 1; arrive 2; link 0, 0, port d; print finished(a);"
        for _ in range(2):
            found = run_script(network, state, source, 10)
            self.assertEqual(found, ([1, 1], (("d", "a"), ("b", "c")), (4, ((3,), (1,))), None))
            self.assertEqual([type(found[0]), type(found[1][0]), type(found[2]), type(found[2][1][0])],
                             [list, tuple, tuple, tuple])
            found[0].clear()
            run_script(network, state, "print 5; print x;", 10)[0].append(3)
        self.assertEqual((network, state), (NETWORK, (2, ((1,), ()))))

    def test_a_long_run(self):
        source = (
            "let x = 0; repeat 14000 { arrive 1; let x = x + queue(0); if queue(1) > 0 { send 1; let x = x + 2; } }"
            "print x; print finished(c); print finished(d);")
        network = (("a", 1, "b"), ("c", "d", "e"))
        run = PlainScriptRun(network, (1, ((), ())), source, 100000)
        self.assertEqual(run_script(network, (1, ((), ())), source, 100000), run.result())
        self.assertEqual((run.output, run.reason), ([23333, 4666, 0], None))
        self.assertGreater(run.steps, 65000)


if __name__ == "__main__":
    unittest.main()
