"""Tests of fullboats.text_format: point 20, and point 1 as far as it speaks of it."""

import random
import re
import unittest

from fullboats.errors import InvalidNetwork, InvalidState, InvalidText
from fullboats.text_format import format_network, format_state, parse_network, parse_state
from plain import SMALL, random_cases

NETWORK = ((1, "a"), ("b", "c"))
BAD_NETWORK = (("a",), ("b", 1))
BIG = 10 ** 30


class NetworkTextTest(unittest.TestCase):

    def check_text_fault(self, text, row):
        with self.subTest(text=text):
            with self.assertRaises(InvalidText) as caught:
                parse_network(text)
            self.assertEqual(vars(caught.exception), {"row": row})

    def check_network_fault(self, text, station, seat):
        with self.subTest(text=text):
            with self.assertRaises(InvalidNetwork) as caught:
                parse_network(text)
            self.assertEqual((caught.exception.station, caught.exception.seat), (station, seat))

    def test_examples_of_the_document(self):
        self.assertEqual(format_network(NETWORK), "1 a\nb c")
        self.check_text_fault("1  a", 0)

    def test_to_text_and_back(self):
        for network, _ in random_cases(201, 300, 20, 8):
            text = "\n".join(" ".join(map(str, seats)) for seats in network)
            self.assertEqual(format_network(network), text)
            self.assertEqual(parse_network(text), network)
            self.assertEqual({type(seats) for seats in parse_network(text)}, {tuple})

    def test_largest_and_smallest(self):
        largest = tuple(tuple([39] * 7 + ["abcdefgh"]) for _ in range(39)) + (("z",) * 8,)
        self.assertEqual(parse_network(format_network(largest)), largest)
        self.assertEqual(format_network((("q",),)), "q")
        self.assertEqual(parse_network("q"), (("q",),))

    def test_invalid_networks_have_no_text(self):
        for network, station, seat in (((), 0, -1), (BAD_NETWORK, 1, 1), (((),), 0, -1), ((("A",),), 0, 0)):
            with self.assertRaises(InvalidNetwork) as caught:
                format_network(network)
            self.assertEqual((caught.exception.station, caught.exception.seat), (station, seat))

    def test_lines_that_are_not_so_formed(self):
        for line in (
                "", " ", "a ", " a", "a  b", "1  a", " 1 a", "1 a ", "A", "aB", "a1", "1a", "a 1b", "01", "00", "a 01",
                "100", "001", "1 100", "1000000", "-1", "+1", "1.", "a,b", "a\tb", "\ta", "a\r", "\xe9", "a\xa0b", "a_b",
                "\u0663", "\xb2", "\u2028a", "a\x0bb", "#", "1 a # b", "1\u3000a", "1" + "0" * 5000):
            self.check_text_fault(line, 0)
            self.check_text_fault("1 b\n" + line, 1)
            self.check_text_fault("1 b\n" + line + "\nc\n" + line, 1)
            # A line that is not so formed is told ahead of what makes a network invalid.
            self.check_text_fault("0 abcdefghijk 99\nc\n" + line, 2)

    def test_line_feeds(self):
        self.check_text_fault("", 0)
        self.check_text_fault("\n", 0)
        self.check_text_fault("a\n", 1)
        self.check_text_fault("1 a\nb c\n", 2)
        self.check_text_fault("\na", 0)
        self.check_text_fault("1 a\n\nb", 1)
        self.check_text_fault("1 a\r\nb c", 0)
        self.check_text_fault("1 a\rb c", 0)

    def test_texts_of_invalid_networks(self):
        self.check_network_fault("abcdefghi", 0, 0)
        self.check_network_fault("a " + "b" * 1000, 0, 1)
        self.check_network_fault("0", 0, 0)
        self.check_network_fault("a 1", 0, 1)
        self.check_network_fault("1 a\nb 1", 1, 1)
        self.check_network_fault("1 a\n0 b", 1, 0)
        self.check_network_fault("99 a\nb", 0, 0)
        self.check_network_fault("10\na", 0, 0)
        self.check_network_fault("a b c d e f g h i", 0, -1)
        self.check_network_fault("1\na b c d e f g h i", 1, -1)
        self.check_network_fault("\n".join(["a"] * 41), 40, -1)
        self.check_network_fault("\n".join(["a"] * 60), 40, -1)
        self.assertEqual(parse_network("\n".join(["a"] * 40)), (("a",),) * 40)

    def test_numbers_of_one_and_two_digits(self):
        network = tuple((station + 1,) for station in range(39)) + (("a",),)
        self.assertEqual(parse_network("\n".join([str(number) for number in range(1, 40)] + ["a"])), network)

    def test_changed_texts(self):
        chooser = random.Random(202)
        told = {InvalidText: 0, InvalidNetwork: 0, None: 0}
        for network, _ in random_cases(203, 1000, 5, 4):
            text = format_network(network)
            start = chooser.randint(0, len(text))
            piece = chooser.choice(["", "0", "1", "7", "x", "A", " ", "\n", "-"])
            text = text[:start] + piece + text[start + chooser.randrange(2):]
            error, row = self.plain_fault(text)
            told[error] += 1
            with self.subTest(text=text):
                if error is None:
                    self.assertEqual(format_network(parse_network(text)), text)
                    continue
                with self.assertRaises(error) as caught:
                    parse_network(text)
                if error is InvalidText:
                    self.assertEqual(caught.exception.row, row)
        self.assertGreater(min(told.values()), 100)

    def plain_fault(self, text):
        """Return (InvalidText, row), (InvalidNetwork, None) or (None, None)."""
        lines = text.split("\n")
        letters, digits = "abcdefghijklmnopqrstuvwxyz", [str(number) for number in range(100)]
        for row, line in enumerate(lines):
            for word in line.split(" "):
                if word not in digits and (not word or set(word) - set(letters)):
                    return InvalidText, row
        for row, line in enumerate(lines):
            words = line.split(" ")
            if len(words) > 8 or any(word in digits and not row < int(word) < len(lines) for word in words):
                return InvalidNetwork, None
        return None, None

    def test_repeated_calls(self):
        for _ in range(2):
            self.assertEqual(parse_network("1 a\nb c"), NETWORK)
            self.check_text_fault("1 a\nb C", 1)
            self.assertEqual(format_network(NETWORK), "1 a\nb c")


class StateTextTest(unittest.TestCase):

    def check_text_fault(self, text, row, network=NETWORK):
        with self.subTest(text=text):
            with self.assertRaises(InvalidText) as caught:
                parse_state(network, text)
            self.assertEqual(vars(caught.exception), {"row": row})

    def test_examples_of_the_document(self):
        self.assertEqual(format_state(NETWORK, (2, ((1,), ()))), "next 2\nqueue 1\nqueue")
        self.check_text_fault("next 2\nqueue 1", 2)

    def test_to_text_and_back(self):
        for network, state in random_cases(204, 300, 20, 8):
            lines = [f"next {state[0]}"] + [" ".join(["queue", *map(str, queue)]) for queue in state[1]]
            self.assertEqual(format_state(network, state), "\n".join(lines))
            found = parse_state(network, "\n".join(lines))
            self.assertEqual(found, state)
            self.assertEqual({type(part) for part in (found, found[1], *found[1])}, {tuple})

    def test_large_numbers(self):
        network = (("a",) * 4, ("b",) * 3)
        state = (BIG + 10, ((BIG, 3, BIG - 1), (BIG + 9, 10 ** 18)))
        text = f"next {BIG + 10}\nqueue {BIG} 3 {BIG - 1}\nqueue {BIG + 9} 1{'0' * 18}"
        self.assertEqual(format_state(network, state), text)
        self.assertEqual(parse_state(network, text), state)

    def check_long_number(self, digits, number):
        """Check a state whose passengers have the digits of this number and one more."""
        network = (("a",) * 3, ("b",) * 2, ("c",) * 4)
        state = (10 * number + 2, ((1, 10 * number + 1), (), (10 * number, 2, 3)))
        text = f"next {digits}2\nqueue 1 {digits}1\nqueue\nqueue {digits}0 2 3"
        # Not assertEqual: it would show numbers that differ, which Python refuses if they are long.
        self.assertTrue(format_state(network, state) == text, len(digits))
        self.assertTrue(parse_state(network, text) == state, len(digits))

    def test_numbers_of_any_length(self):
        lengths = (639, 640, 641, 4298, 4299, 4300, 4301, 4352, 5000, 8600, 8601, 12345, 30000)
        for length in (*range(1, 200), *lengths):
            self.check_long_number("1" + "0" * (length - 1), 10 ** (length - 1))
            self.check_long_number("9" * length, 10 ** length - 1)

    def test_long_numbers_of_any_digits(self):
        chooser = random.Random(206)
        for _ in range(200):
            # Python converts the pieces, which are short.
            digits = chooser.choice("123456789")
            number = int(digits)
            for length in chooser.choices(range(1, 90), k=chooser.randint(1, 160)):
                piece = "".join(chooser.choices("0000123456789", k=length))
                digits += piece
                number = number * 10 ** length + int(piece)
            self.check_long_number(digits, number)

    def test_long_numbers_of_invalid_states(self):
        for zeros in (4298, 4299, 4300, 5000, 20000):
            long = "1" + "0" * zeros
            for text in (
                    f"next 5\nqueue {long}\nqueue", f"next 5\nqueue\nqueue {long}", f"next {long}\nqueue {long}\nqueue",
                    f"next {long}\nqueue {long}0\nqueue", f"next {long}0\nqueue {long}\nqueue {long}",
                    f"next {long}0\nqueue {long} 3\nqueue", f"next {long}\nqueue 0\nqueue"):
                with self.assertRaises(InvalidState):
                    parse_state(NETWORK, text)
            for state in ((5, ((10 ** zeros,), ())), (10 ** zeros, ((), (10 ** zeros,))), (-(10 ** zeros), ((), ()))):
                with self.assertRaises(InvalidState):
                    format_state(NETWORK, state)

    def test_long_numbers_in_lines_that_are_not_so_formed(self):
        for zeros in (4298, 4299, 4300, 5000, 20000):
            long = "1" + "0" * zeros
            for wrong in ("0" + long, "00" * zeros, "-" + long, "+" + long, long + "x", long + "_0", long + "\u0660"):
                self.check_text_fault(f"next {wrong}\nqueue\nqueue", 0)
                self.check_text_fault(f"next {long}\nqueue {wrong}\nqueue", 1)
                self.check_text_fault(f"next {long}\nqueue {long}\nqueue 3 {wrong}", 2)
            self.check_text_fault(f"next {long} {long}\nqueue\nqueue", 0)
            self.check_text_fault(f"next {long}\nqueue\nqueues", 2)
            self.check_text_fault(f"next {long}\nqueue", 2)
            self.check_text_fault(f"next {long}\nqueue\nqueue\nqueue {long}", 3)

    def test_lines_that_are_not_so_formed(self):
        for line in (
                "", " ", "next", "next ", "next  5", " next 5", "next 5 ", "next 5 6", "next 05", "next 005", "next 00",
                "next 000", "next 0 0", "next 0x", "next -0", "next -1", "next +5", "next x", "next 5x", "next5", "next 5.",
                "Next 5", "NEXT 5", "nexT 5", "queue 5", "queue", "5", "5 next", "next\t5", "next 5\r", "next \u0665",
                "next \xb2", "net 5", "next 1_0", "next next 5", "following 5", "next 5 #"):
            self.check_text_fault(line + "\nqueue\nqueue", 0)
            self.check_text_fault(line, 0)
        for line in (
                "", " ", "queue ", " queue", "queue  1", "queue 1 ", "queue 1  2", "queue 01", "queue 1 02", "queue -1",
                "queue x", "queue 1x", "queue1", "Queue 1", "queue,1", "queue 1,2", "queue\t1", "queue 1\r", "queue \u0661",
                "next 5", "next", "1", "1 queue", "queues 1", "queu 1", "queue queue", "queue 00", "queue 1 00", "queue 0 01",
                "queue 0 ", "queue  0", "queue -0", "queue 0x", "a 1"):
            self.check_text_fault("next 9\n" + line + "\nqueue", 1)
            self.check_text_fault("next 9\nqueue\n" + line, 2)
            self.check_text_fault("next 9\n" + line, 1)

    def test_lines_that_are_missing_or_superfluous(self):
        self.check_text_fault("", 0)
        self.check_text_fault("next 9", 1)
        self.check_text_fault("next 9\nqueue", 2)
        self.check_text_fault("next 9\n", 1)
        self.check_text_fault("next 9\nqueue\n", 2)
        self.check_text_fault("next 9\nqueue\nqueue\n", 3)
        self.check_text_fault("next 9\nqueue\nqueue\nqueue", 3)
        self.check_text_fault("next 9\nqueue\nqueue\nqueue\nqueue\nqueue", 3)
        self.check_text_fault("next 9\nqueue\nqueue\nwhat", 3)
        self.check_text_fault("next 9\nqueue\nqueues\nqueue", 2)
        self.check_text_fault("\nnext 9\nqueue\nqueue", 0)
        self.check_text_fault("next 9\n\nqueue\nqueue", 1)
        self.check_text_fault("next 9", 1, (("a",),))
        self.check_text_fault("next 9\nqueue\nqueue", 2, (("a",),))
        self.check_text_fault("next 9\nqueue", 2, (("a",),) * 40)
        self.check_text_fault("next 9" + "\nqueue" * 39, 40, (("a",),) * 40)
        self.check_text_fault("next 9" + "\nqueue" * 41, 41, (("a",),) * 40)
        self.check_text_fault("next 9\r\nqueue\r\nqueue", 0)

    def test_texts_of_invalid_states(self):
        for text in (
                "next 1\nqueue 1\nqueue", "next 5\nqueue 5\nqueue", "next 5\nqueue 6\nqueue", "next 5\nqueue 1 2\nqueue",
                "next 5\nqueue\nqueue 1 2", "next 5\nqueue 2\nqueue 2", f"next 5\nqueue\nqueue {BIG}",
                "next 5\nqueue 1 1 1 1 1 1 1 1 1 1\nqueue"):
            with self.subTest(text=text), self.assertRaises(InvalidState):
                parse_state(NETWORK, text)
        # A line that is not so formed, missing or superfluous is told first.
        self.check_text_fault("next 1\nqueue 1\nqueue 01", 2)
        self.check_text_fault("next 1\nqueue 1", 2)
        self.check_text_fault("next 1\nqueue 1\nqueue\nqueue", 3)

    def test_zero_is_a_number_but_no_passenger(self):
        for text in (
                "next 0\nqueue\nqueue", "next 0\nqueue 0\nqueue", "next 0\nqueue 1\nqueue", "next 1\nqueue 0\nqueue",
                "next 5\nqueue 0\nqueue", "next 5\nqueue\nqueue 0", "next 5\nqueue 0\nqueue 0",
                "next 5\nqueue 1 0\nqueue", "next 5\nqueue 0 0 0\nqueue"):
            with self.subTest(text=text), self.assertRaises(InvalidState):
                parse_state(NETWORK, text)
        with self.assertRaises(InvalidState):
            parse_state((("a", "b", "c"),), "next 9\nqueue 3 0")
        # Another line that is not so formed, missing or superfluous is told first.
        self.check_text_fault("next 0\nqueue 00\nqueue", 1)
        self.check_text_fault("next 0\nqueue 0\nqueues", 2)
        self.check_text_fault("next 5\nqueue 0\nqueue 1 01", 2)
        self.check_text_fault("next 0", 1)
        self.check_text_fault("next 5\nqueue 0", 2)
        self.check_text_fault("next 0\nqueue 0\nqueue 0\nqueue", 3)
        self.check_text_fault("next 9\nqueue 0\nqueue\nqxeue 4 2", 3, SMALL)

    def test_changed_texts(self):
        chooser = random.Random(204)
        told = {InvalidText: 0, InvalidState: 0, None: 0}
        for network, state in random_cases(205, 4000, 4, 4):
            text = format_state(network, state)
            start = chooser.randint(0, len(text))
            piece = chooser.choice(["", "0", " 0", "1", "7", "x", "A", " ", "\n", "-", "\nqueue"])
            text = text[:start] + piece + text[start + chooser.randrange(2):]
            error, row = self.plain_fault(network, text)
            told[error] += 1
            with self.subTest(text=text):
                if error is None:
                    self.assertEqual(format_state(network, parse_state(network, text)), text)
                    continue
                with self.assertRaises(error) as caught:
                    parse_state(network, text)
                if error is InvalidText:
                    self.assertEqual(caught.exception.row, row)
        self.assertGreater(min(told.values()), 100)

    def plain_fault(self, network, text):
        """Return (InvalidText, row), (InvalidState, None) or (None, None)."""
        lines = text.split("\n")
        number = "(0|[1-9][0-9]*)"
        for row in range(1 + len(network)):
            form = f"queue( {number})*" if row else f"next {number}"
            if row == len(lines) or not re.fullmatch(form, lines[row]):
                return InvalidText, row
        if len(lines) > 1 + len(network):
            return InvalidText, 1 + len(network)
        queues = [[int(word) for word in line.split(" ")[1:]] for line in lines]
        next_passenger, waiting = queues[0][0], sum(queues[1:], [])
        if any(len(queue) >= len(seats) for queue, seats in zip(queues[1:], network)) or next_passenger == 0:
            return InvalidState, None
        if len(set(waiting)) < len(waiting) or set(waiting) - set(range(1, next_passenger)):
            return InvalidState, None
        return None, None

    def test_order_of_the_errors(self):
        for function, argument in ((format_state, (0, ())), (parse_state, "what")):
            with self.assertRaises(InvalidNetwork) as caught:
                function(BAD_NETWORK, argument)
            self.assertEqual((caught.exception.station, caught.exception.seat), (1, 1))
        for state in ((0, ((), ())), (1, ((),)), (3, ((3,), ())), (3, ((1,), (1,))), (5, ((1, 2), ()))):
            with self.assertRaises(InvalidState):
                format_state(NETWORK, state)

    def test_repeated_calls(self):
        for _ in range(2):
            self.assertEqual(parse_state(SMALL, "next 3\nqueue 1 2\nqueue\nqueue"), (3, ((1, 2), (), ())))
            self.check_text_fault("next 3\nqueue\nqueue\nqueue ", 3, SMALL)
            self.assertEqual(format_state(SMALL, (3, ((1, 2), (), ()))), "next 3\nqueue 1 2\nqueue\nqueue")


if __name__ == "__main__":
    unittest.main()
