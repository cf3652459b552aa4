"""Tests of fullboats.journal: point 22, and point 1 as far as it speaks of it."""

import unittest

from fullboats.byte_format import encode_network, unpack_bytes
from fullboats.dispatcher import Dispatcher
from fullboats.errors import FerryError, InvalidData, InvalidEntry, InvalidNetwork, InvalidOperation
from fullboats.journal import encode_entry, encode_journal, entry_ends, recover
from plain import SMALL
from plain_bytes import PlainFault, Tape, changes_of, network_bytes, number, sealed, take_network, word
from plain_dispatcher import CallMaker, PlainDispatcher, outcome, tell

NETWORK = ((1, "a"), ("b", "c"))
BAD_NETWORK = (("a",), ("b", 1))
BIG = 10 ** 18
LETTERS = {"arrivals": "a", "send_early": "s", "leave": "l", "replace_seat": "r", "checkpoint": "c", "restore": "b",
           "batch": "B", "undo": "u", "redo": "y"}
KINDS = {"a": "n", "s": "n", "l": "n", "r": "nnp", "c": "w", "b": "w", "u": "", "y": ""}
# A value of a kind is followed by a call that has it, within a batch or not.
CALLS = [
    ("arrivals", 0), ("arrivals", 5), ("arrivals", 127), ("arrivals", 128), ("arrivals", BIG), ("send_early", 0),
    ("send_early", 39), ("leave", 1), ("leave", 10 ** 40), ("replace_seat", 0, 0, "a"), ("replace_seat", 39, 7, "abcdefgh"),
    ("replace_seat", 1, 2, 0), ("replace_seat", 1, 2, 39), ("checkpoint", "a"), ("checkpoint", "zyxwvuts"),
    ("restore", "abc")]


def payload(call):
    """Return the bytes of a call by the words of the document."""
    name, arguments = call[0], call[1:]
    numbers = [ord(LETTERS[name])]
    if name == "batch":
        numbers += number(len(arguments[0]))
        for operation in arguments[0]:
            numbers += payload(operation)
        return numbers
    for at, argument in enumerate(arguments):
        if isinstance(argument, str):
            numbers += word(argument)
        else:
            numbers += ([0] if at == 2 else []) + number(argument)
    return numbers


def entry(numbers):
    return sealed(number(len(numbers)) + numbers)


def take_call(tape, batch=True):
    """Return the call of a payload, or raise PlainFault."""
    letter = chr(tape.byte())
    if letter == "B" and batch:
        return ("batch", tuple(take_call(tape, False) for _ in range(tape.number())))
    if letter not in KINDS or letter in "uy" and not batch:
        raise PlainFault(0)
    call = [name for name in LETTERS if LETTERS[name] == letter]
    for kind in KINDS[letter]:
        if kind == "p" and tape.data[tape.at:tape.at + 1] == [0]:
            tape.byte()
            kind = "n"
        call.append(tape.number() if kind == "n" else tape.word())
    return tuple(call)


def read_plainly(data):
    """Return (ends, told, rest) of a journal: told is what the dispatcher tells, or the index of an invalid entry."""
    tape = Tape(data)
    dispatcher = Dispatcher(take_network(tape))
    ends, told = [tape.at], None
    while True:
        start = tape.at
        try:
            length = tape.number()
            tape.at += length
            if tape.at > len(data):
                break
            # The checksum is one of the length and of the payload.
            tape.checksum(start)
        except PlainFault:
            break
        inner = Tape(data[tape.at - 2 - length:tape.at - 2])
        ends.append(tape.at)
        if told is None:
            try:
                call = take_call(inner)
                inner.end()
                getattr(dispatcher, call[0])(*call[1:])
            except (PlainFault, FerryError):
                told = ("invalid", len(ends) - 2)
    return ends, told or tell(dispatcher), len(data) - ends[-1]


class JournalTest(unittest.TestCase):

    def check_journal(self, data):
        """Check how a journal is read against a plain reading of it, and return what the dispatcher tells."""
        try:
            wanted = read_plainly(data)
        except PlainFault as fault:
            for function in (entry_ends, recover):
                with self.subTest(data=list(data)), self.assertRaises(InvalidData) as caught:
                    function(data)
                self.assertEqual(vars(caught.exception), {"offset": fault.args[0]})
            return None
        ends, told, rest = wanted
        with self.subTest(data=list(data)):
            self.assertEqual(entry_ends(data), ends)
            if told[0] == "invalid":
                with self.assertRaises(InvalidEntry) as caught:
                    recover(data)
                self.assertEqual(vars(caught.exception), {"index": told[1]})
            else:
                dispatcher, found = recover(data)
                self.assertEqual((tell(dispatcher), found), (told, rest))
        return told

    def check_invalid_entry(self, data, index):
        self.assertEqual(self.check_journal(data), ("invalid", index))

    def test_examples_of_the_document(self):
        self.assertEqual(unpack_bytes(encode_entry(("arrivals", 300))), [3, 97, 172, 2, 246, 133])
        with self.assertRaises(InvalidOperation) as caught:
            encode_entry(("arrivals", -1))
        self.assertEqual(caught.exception.index, 0)
        self.assertEqual(
            unpack_bytes(encode_journal((("a",),), [("undo",)])), [78, 1, 1, 1, 97, 1, 0, 20, 46, 1, 117, 4, 85])
        self.assertEqual(entry_ends(bytes([78, 1, 1, 1, 97, 1, 0, 20, 46, 1, 117, 4, 85, 1])), [9, 13])
        with self.assertRaises(InvalidEntry) as caught:
            recover(encode_journal(NETWORK, [("arrivals", 4), ("send_early", 1), ("undo",)])[:-1])
        self.assertEqual(caught.exception.index, 1)
        dispatcher, rest = recover(encode_journal(NETWORK, [("arrivals", 3), ("send_early", 1)])[:-1])
        self.assertEqual([dispatcher.arrival_count(), dispatcher.log(), rest], [3, [("arrivals", 3)], 4])

    def test_entries_of_each_call(self):
        for call in CALLS + [("undo",), ("redo",), ("batch", ()), ("batch", tuple(CALLS)), ("batch", tuple(CALLS) * 12)]:
            with self.subTest(call=call):
                data = encode_entry(call)
                self.assertEqual((type(data), data), (bytes, entry(payload(call))))
        self.assertEqual(encode_entry(("batch", ())), sealed([2, 66, 0]))
        self.assertEqual(encode_entry(("redo",)), sealed([1, 121]))
        self.assertEqual(encode_entry(("replace_seat", 1, 2, "xy")), sealed([6, 114, 1, 2, 2, 120, 121]))
        self.assertEqual(encode_entry(("replace_seat", 1, 2, 3)), sealed([5, 114, 1, 2, 0, 3]))
        self.assertEqual(encode_entry(("leave", 128)), sealed([3, 108, 128, 1]))
        self.assertEqual(encode_entry(("checkpoint", "xy")), sealed([4, 99, 2, 120, 121]))
        self.assertEqual(encode_entry(("restore", "z")), sealed([3, 98, 1, 122]))
        self.assertEqual(encode_entry(("send_early", 7)), sealed([2, 115, 7]))
        self.assertEqual(encode_entry(("batch", (("leave", 9), ("send_early", 7)))), sealed([6, 66, 2, 108, 9, 115, 7]))
        # A payload of 128 bytes and more.
        self.assertEqual(encode_entry(("batch", (("leave", 9),) * 63))[:4], bytes([128, 1, 66, 63]))

    def test_calls_that_are_none(self):
        wrong_operations = [
            ["arrivals", 1], "arrivals", "undo", 5, None, (), ("",), ("arrive", 1), ("log",), ("totals",), (1, 2), (None,),
            ([], 1), (("undo",),), ("arrivals",), ("arrivals", 1, 2), ("send_early",), ("send_early", 0, 1), ("leave",),
            ("leave", 1, 1), ("replace_seat", 0, 0), ("replace_seat", 0, 0, "a", "b"), ("replace_seat",), ("checkpoint",),
            ("checkpoint", "x", "y"), ("restore",), ("restore", "x", "y"),
            # Out of range.
            ("arrivals", -1), ("arrivals", BIG + 1), ("send_early", -1), ("send_early", 40), ("leave", 0), ("leave", -1),
            ("replace_seat", -1, 0, "a"), ("replace_seat", 40, 0, "a"), ("replace_seat", 0, -1, "a"),
            ("replace_seat", 0, 8, "a"), ("replace_seat", 0, 0, ""), ("replace_seat", 0, 0, "abcdefghi"),
            ("replace_seat", 0, 0, "A"), ("replace_seat", 0, 0, -1), ("replace_seat", 0, 0, 40), ("checkpoint", ""),
            ("checkpoint", "abcdefghi"), ("checkpoint", "X"), ("checkpoint", "x1"), ("restore", ""), ("restore", "a b"),
            # Of another kind.
            ("arrivals", "a"), ("arrivals", None), ("arrivals", (1,)), ("arrivals", True), ("arrivals", 1.0),
            ("send_early", "a"), ("send_early", [0]), ("send_early", False), ("leave", "a"), ("leave", True),
            ("replace_seat", "a", 0, "a"), ("replace_seat", 0, "a", "a"), ("replace_seat", 0, 0, None),
            ("replace_seat", 0, 0, ("a",)), ("replace_seat", 0, 0, True), ("checkpoint", 1), ("checkpoint", None),
            ("checkpoint", b"x"), ("restore", 0), ("restore", ("x",))]
        wrong = wrong_operations + [
            ("undo", 1), ("redo", 1), ("batch",), ("batch", (), ()), ("batch", 5), ("batch", None), ("batch", "ab"),
            ("batch", [("arrivals", 1)]), ("batch", {}), ["undo"], ["batch", ()]]
        for operation in wrong_operations + [("undo",), ("redo",), ("batch", ()), ("batch", (("arrivals", 1),))]:
            wrong.append(("batch", (operation,)))
            wrong.append(("batch", (("arrivals", 1), operation, ("arrivals", 1))))
        for call in wrong:
            with self.subTest(call=call):
                with self.assertRaises(InvalidOperation) as caught:
                    encode_entry(call)
                self.assertEqual(vars(caught.exception), {"index": 0})
                for first in ([], [("undo",)], [("batch", (("arrivals", 1),)), ("redo",), ("arrivals", 3)]):
                    with self.assertRaises(InvalidOperation) as caught:
                        encode_journal(NETWORK, first + [call, ("undo",), call])
                    self.assertEqual(vars(caught.exception), {"index": len(first)})

    def test_journals(self):
        for calls in ([], CALLS, [("undo",), ("batch", tuple(CALLS)), ("redo",)]):
            data = b"".join([network_bytes(SMALL)] + [entry(payload(call)) for call in calls])
            self.assertEqual(encode_journal(SMALL, calls), data)
            self.assertEqual(encode_journal(SMALL, tuple(calls)), data)
            lengths = [len(entry(payload(call))) for call in calls]
            start = len(encode_network(SMALL))
            self.assertEqual(entry_ends(data), [start + sum(lengths[:many]) for many in range(len(calls) + 1)])

    def test_invalid_networks_come_first(self):
        for network, station, seat in ((BAD_NETWORK, 1, 1), ((), 0, -1)):
            with self.assertRaises(InvalidNetwork) as caught:
                encode_journal(network, [("what",)])
            self.assertEqual((caught.exception.station, caught.exception.seat), (station, seat))

    def test_dispatchers_come_back_and_go_on(self):
        for seed in range(120):
            maker = CallMaker(seed)
            network = maker.network()
            dispatcher, plain = Dispatcher(network), PlainDispatcher(network)
            for _ in range(40):
                call = maker.call(plain)
                outcome(plain.call, *call)
                outcome(getattr(dispatcher, call[0]), *call[1:])
            found, rest = recover(encode_journal(network, dispatcher.log()))
            with self.subTest(log=dispatcher.log()):
                self.assertEqual((tell(found), rest), (plain.told(), 0))
                for _ in range(15):
                    call = maker.call(plain)
                    self.assertEqual(outcome(getattr(found, call[0]), *call[1:]), outcome(plain.call, *call))
                    self.assertEqual(tell(found), plain.told())

    def test_calls_that_do_nothing(self):
        # Undo and redo raise no error where there is nothing to revert or to perform.
        data = encode_journal(NETWORK, [("undo",), ("redo",), ("arrivals", 3), ("redo",), ("undo",), ("undo",)])
        dispatcher, rest = recover(data)
        self.assertEqual((dispatcher.log(), rest), ([("arrivals", 3), ("undo",)], 0))
        self.assertTrue(dispatcher.redo())
        self.assertEqual(recover(encode_network(NETWORK))[0].log(), [])

    def test_large_numbers(self):
        calls = [("arrivals", BIG), ("arrivals", BIG - 1), ("leave", 2 * BIG - 1), ("batch", (("arrivals", BIG),) * 3)]
        dispatcher, rest = recover(encode_journal(NETWORK, calls))
        self.assertEqual((dispatcher.arrival_count(), dispatcher.log(), rest), (5 * BIG - 1, calls, 0))

    def test_journals_that_are_cut_off(self):
        calls = [("arrivals", 300), ("checkpoint", "xy"), ("replace_seat", 0, 0, "d"), ("undo",),
                 ("batch", (("arrivals", 1), ("replace_seat", 0, 1, 1), ("restore", "xy"))), ("redo",), ("leave", 300)]
        data = encode_journal(NETWORK, calls)
        ends = entry_ends(data)
        self.assertEqual(ends[-1], len(data))
        start = len(encode_network(NETWORK))
        for length in range(start):
            self.assertIsNone(self.check_journal(data[:length]))
            with self.assertRaises(InvalidData) as caught:
                recover(data[:length])
            self.assertEqual(caught.exception.offset, length)
        # There is nothing to redo, so the entry of redo leaves no trace in the log.
        done = [call for call in calls[:6] if call != ("redo",)]
        for length in range(start, ends[6]):
            complete = [end for end in ends if end <= length]
            self.assertEqual(self.check_journal(data[:length])[5], done[:len(complete) - 1])
            dispatcher, rest = recover(data[:length])
            self.assertEqual((dispatcher.log(), rest), (done[:len(complete) - 1], length - complete[-1]))
        self.check_invalid_entry(data, 6)

    def test_changed_journals(self):
        data = encode_journal(
            NETWORK, [("arrivals", 3), ("send_early", 1), ("batch", (("leave", 3), ("replace_seat", 0, 0, "d"))), ("undo",)])
        many = set()
        for changed in changes_of(data):
            self.check_journal(changed)
            try:
                many.add(len(entry_ends(changed)))
            except InvalidData:
                many.add(None)
        self.assertEqual(many, {None, 1, 2, 3, 4, 5})

    def test_changed_payloads_with_right_checksums(self):
        first = encode_journal(NETWORK, [("arrivals", 3)])
        after = encode_entry(("arrivals", 1))
        told = {True: 0, False: 0}
        for call in (("arrivals", 300), ("send_early", 1), ("leave", 3), ("replace_seat", 0, 0, "d"),
                     ("replace_seat", 0, 1, 1), ("checkpoint", "xy"), ("restore", "xy"), ("undo",), ("redo",), ("batch", ()),
                     ("batch", (("arrivals", 1), ("leave", 3), ("replace_seat", 0, 0, "d")))):
            for changed in changes_of(bytes(payload(call))):
                told[self.check_journal(first + entry(list(changed)) + after)[0] == "invalid"] += 1
        self.assertGreater(min(told.values()), 200)

    def test_complete_entries_that_are_none(self):
        first = encode_journal(NETWORK, [("arrivals", 3), ("checkpoint", "x")])
        for numbers in (
                [], [97], [97, 3, 0], [97, 131, 0], [97, 128, 0], [97, 131], [98, 1, 120, 0], [65, 1], [117, 0], [121, 121],
                [115, 129, 0], [0], [255], [114, 0, 0], [114, 0, 0, 0], [114, 0, 0, 0, 129, 0], [114, 0, 0, 0, 1, 0],
                [114, 0, 0, 1], [114, 0, 0, 9] + [97] * 9, [114, 0, 0, 1, 65], [99], [99, 0], [99, 1], [99, 1, 88],
                [99, 9] + [97] * 9, [99, 2, 97], [66], [66, 1], [66, 0, 0], [66, 1, 117], [66, 1, 121], [66, 1, 66, 0],
                [66, 1, 97, 1, 97, 1], [66, 2, 97, 1], [66, 129, 0, 97, 1], [66, 128, 0], [66, 255, 255, 127, 97, 1],
                [66] + number(10 ** 30) + [97, 1], [66, 1, 65, 1]):
            self.check_invalid_entry(first + entry(numbers), 2)
            self.check_invalid_entry(first + encode_entry(("undo",)) + entry(numbers) + encode_entry(("undo",)), 3)

    def test_calls_that_raise_errors(self):
        first = encode_journal(NETWORK, [("arrivals", 3), ("checkpoint", "x")])
        for call in (
                ("arrivals", BIG + 1), ("send_early", 2), ("send_early", 10 ** 30), ("leave", 0), ("leave", 5),
                ("replace_seat", 2, 0, "a"), ("replace_seat", 0, 2, "a"), ("replace_seat", 0, 0, 0),
                ("replace_seat", 0, 0, 2), ("replace_seat", 0, 0, 99), ("restore", "y"),
                ("batch", (("arrivals", 1), ("leave", 9))), ("batch", (("arrivals", BIG + 1),))):
            for more in (b"", encode_entry(("undo",)), entry([0])):
                self.check_invalid_entry(first + entry(payload(call)) + more, 2)
        # What cannot be read any more does not matter, but what is complete does.
        self.check_invalid_entry(first + entry([0]) + b"\x01", 2)
        self.assertEqual(self.check_journal(first + entry([0])[:-1])[2], 3)

    def test_lengths_of_entries(self):
        first = encode_journal(NETWORK, [("arrivals", 3)])
        numbers = payload(("arrivals", 1))
        # A length that is no number begins no entry.
        for length in ([130, 0], [130, 128, 0], [130], [128, 0], [255, 255], [127], [255, 127], number(10 ** 30)):
            data = first + sealed(length + numbers) + encode_entry(("arrivals", 1))
            self.assertEqual(self.check_journal(data)[5], [("arrivals", 3)])
            self.assertEqual(recover(data)[1], len(data) - len(first))
        # The checksum is one of the length, too.
        data = first + bytes([2]) + sealed(numbers)
        self.assertEqual(entry_ends(data), entry_ends(first))

    def test_wrong_checksums(self):
        first = encode_journal(NETWORK, [("arrivals", 3)])
        data = encode_entry(("arrivals", 1))
        for at in (-1, -2):
            for value in range(256):
                changed = bytearray(data)
                changed[at] = value
                complete = bytes(changed) == data
                found, rest = recover(first + bytes(changed) + data)
                self.assertEqual((found.arrival_count(), rest), (5, 0) if complete else (3, 2 * len(data)))

    def test_networks_of_journals(self):
        network = encode_network(NETWORK)
        for changed in changes_of(network):
            self.check_journal(changed + encode_entry(("arrivals", 3)))
        # Behind a network there may be anything.
        for rest in (b"\x00", b"\xff" * 9, network):
            self.assertEqual(entry_ends(network + rest), [len(network)])
            self.assertEqual(recover(network + rest)[1], len(rest))
        # But an entry of no bytes is complete if its checksum is right.
        self.assertEqual(entry_ends(network + bytes([0, 0, 31])), [len(network), len(network) + 3])
        self.check_invalid_entry(network + bytes([0, 0, 31]), 0)

    def test_repeated_calls(self):
        calls = [("arrivals", 3), ("batch", (("leave", 3), ("checkpoint", "x"))), ("undo",)]
        given = list(calls)
        data = encode_journal(NETWORK, calls)
        for _ in range(2):
            self.assertEqual(encode_journal(NETWORK, calls), data)
            ends = entry_ends(data)
            self.assertEqual(len(ends), 4)
            ends.clear()
            one, _ = recover(data)
            other, _ = recover(data)
            one.arrivals(5)
            one.redo()
            self.assertEqual((other.arrival_count(), other.log()), (3, calls))
            self.assertTrue(other.redo())
            with self.assertRaises(InvalidOperation):
                encode_journal(NETWORK, [("log",)])
        self.assertEqual(calls, given)


if __name__ == "__main__":
    unittest.main()
