"""Tests of the whole program: the interface, and point 1, which speaks of all functions."""

import copy
import importlib
import inspect
import random
import unittest

from fullboats.byte_format import encode_network, encode_state
from fullboats.dispatcher import Dispatcher
from fullboats.errors import FerryError
from fullboats.journal import encode_journal, recover
from fullboats.observers import Observer
from plain import SMALL
from plain_dispatcher import CallMaker, PlainDispatcher, outcome, tell

BAD = (("a",), ("b", 1))
STATE = (5, ((2, 4), (1,), (3,)))
BAD_STATE = (5, ((2, 5), (), ()))
RATES = ((1, 2), (3, 4), (1, 2))
CALLS = [("arrivals", 300), ("batch", (("checkpoint", "x"), ("arrivals", 1))), ("undo",)]
JOURNAL = encode_journal(SMALL, CALLS)
SOURCE = "let x = 2; repeat x { arrive 2; print queue(1); } link 0, 0, port d; print finished(a) + (1 + 2);"

# File -> function -> lists of arguments, some of which raise errors.
FUNCTIONS = {
    "networks": {"reachable_stations": [(SMALL,), (BAD,)], "ports": [(SMALL,), (BAD,)]},
    "states": {"initial_state": [(SMALL,), (BAD,)], "arrive": [(SMALL, STATE), (SMALL, BAD_STATE), (BAD, STATE)]},
    "counting": {
        "count_boats": [(SMALL, STATE, 7), (SMALL, STATE, -1)],
        "count_finished": [(SMALL, STATE, 10 ** 18), (SMALL, BAD_STATE, 1)]},
    "tracing": {
        "advance": [(SMALL, STATE, 10), (SMALL, STATE, 10 ** 18 + 1)],
        "boat": [(SMALL, STATE, 2, 1), (SMALL, STATE, 3, 1)],
        "finisher": [(SMALL, STATE, "b", 3), (SMALL, STATE, "b", 0)]},
    "routes": {
        "route": [(SMALL, STATE, 6), (SMALL, STATE, 0)], "locate": [(SMALL, STATE, 2, 5), (SMALL, STATE, 2, -1)],
        "companions": [(SMALL, STATE, 6), (SMALL, BAD_STATE, 6)],
        "shared_boats": [(SMALL, STATE, 6, 8), (SMALL, STATE, 6, 0)]},
    "rates": {
        "period": [(SMALL,), (BAD,)], "shares": [(SMALL,), (BAD,)], "average_boats": [(SMALL,), (BAD,)],
        "make_rates": [(SMALL, "b"), (BAD, "b")], "check_rates": [(SMALL, "b", RATES), (SMALL, "b", ((2, 4),) * 3)],
        "count_by_rates": [(SMALL, "b", RATES, (0, 0, 0), (1, 0, 1), 10), (SMALL, "b", RATES, (3, 0, 0), (1, 0, 1), 10)],
        "max_deviation": [(SMALL, "b"), (BAD, "b")]},
    "simplifying": {
        "simplify": [(SMALL, STATE), (SMALL, BAD_STATE)],
        "first_difference": [(SMALL, STATE, SMALL, STATE, 9), (SMALL, STATE, (("a", "b"),), (1, ((),)), 9)]},
    "editing": {
        "send_early": [(SMALL, STATE, 0), (SMALL, STATE, 5)], "leave": [(SMALL, STATE, 4), (SMALL, STATE, 9)],
        "replace_seat": [(SMALL, 0, 1, "z"), (SMALL, 0, 1, 0)]},
    "script_runner": {
        "run_script": [(SMALL, STATE, SOURCE, 100), (SMALL, STATE, SOURCE, 5), (SMALL, STATE, "print", 1),
                       (SMALL, STATE, "print x;", 9)]},
    "script_printer": {"format_script": [(SOURCE,), ("arrive 01;",)]},
    "script_optimizer": {"optimize_script": [(SOURCE,), ("arrive 1",)]},
    "text_format": {
        "format_network": [(SMALL,), (BAD,)], "parse_network": [("1 a 1\n2 b\nc b",), ("1  a",), ("0",)],
        "format_state": [(SMALL, STATE), (SMALL, BAD_STATE)],
        "parse_state": [(SMALL, "next 5\nqueue 2 4\nqueue\nqueue 1"), (SMALL, "next 5"), (SMALL, "next 1\nqueue 1\nqueue\nqueue")]},
    "byte_format": {
        "pack_bytes": [([1, 2, 255],), ((7,),), ([256],)], "unpack_bytes": [(b"abc",)],
        "encode_network": [(SMALL,), (BAD,)], "decode_network": [(encode_network(SMALL),), (b"N\x00",)],
        "encode_state": [(SMALL, STATE), (SMALL, BAD_STATE)],
        "decode_state": [(SMALL, encode_state(SMALL, STATE)), (SMALL, b"S"), (BAD, b"S")]},
    "journal": {
        "encode_entry": [(("arrivals", 300),), (("arrivals", -1),)],
        "encode_journal": [(SMALL, CALLS), (SMALL, [("log",)]), (BAD, CALLS)],
        "entry_ends": [(JOURNAL,), (JOURNAL[:-1],), (JOURNAL[:9],)],
        "recover": [(JOURNAL,), (JOURNAL[:9],), (encode_journal(SMALL, [("leave", 1)]),)]},
}
METHODS = {
    ("observers", "Observer"): [
        "see_boat", "see_departure", "see_finisher", "candidates", "certain_lengths", "possible_finishers", "best_number",
        "history"],
    ("dispatcher", "Dispatcher"): [
        "arrivals", "send_early", "leave", "replace_seat", "checkpoint", "restore", "batch", "undo", "redo",
        "current_network", "current_state", "arrival_count", "totals", "checkpoint_names", "log"],
}


def spoil(value):
    """Change all lists and dicts that a returned value consists of."""
    if isinstance(value, (list, tuple)):
        for part in value:
            spoil(part)
    if isinstance(value, list):
        value.append("spoiled")
    if isinstance(value, dict):
        value["spoiled"] = 1


def ask(function, arguments):
    """Return the outcome of a call in a form that can be compared."""
    found = outcome(function, *arguments)
    if found[0] == "returned" and isinstance(found[1], tuple) and isinstance(found[1][0], Dispatcher):
        return ("returned", (tell(found[1][0]), found[1][1]))
    return found


class InterfaceTest(unittest.TestCase):

    def test_functions_stand_in_their_files(self):
        for file, functions in FUNCTIONS.items():
            module = importlib.import_module("fullboats." + file)
            for name in functions:
                with self.subTest(name=name):
                    self.assertTrue(inspect.isfunction(getattr(module, name)))
                    self.assertEqual(getattr(module, name).__module__, "fullboats." + file)

    def test_classes_have_their_methods_themselves(self):
        for (file, name), methods in METHODS.items():
            kind = getattr(importlib.import_module("fullboats." + file), name)
            self.assertEqual((kind.__module__, kind.__bases__), ("fullboats." + file, (object,)))
            for method in methods + ["__init__"]:
                with self.subTest(name=name, method=method):
                    self.assertTrue(inspect.isfunction(vars(kind)[method]))

    def test_parameters_have_their_names(self):
        wanted = {
            "run_script": "network state source limit", "format_script": "source", "optimize_script": "source",
            "format_network": "network", "parse_network": "text", "format_state": "network state",
            "parse_state": "network text", "pack_bytes": "numbers", "unpack_bytes": "data", "encode_network": "network",
            "decode_network": "data", "encode_state": "network state", "decode_state": "network data",
            "encode_entry": "call", "encode_journal": "network calls", "entry_ends": "data", "recover": "data"}
        for file, functions in FUNCTIONS.items():
            module = importlib.import_module("fullboats." + file)
            for name in functions:
                if name in wanted:
                    self.assertEqual(" ".join(inspect.signature(getattr(module, name)).parameters), wanted[name])
        wanted = {
            "arrivals": "count", "send_early": "station", "leave": "passenger", "replace_seat": "station seat place",
            "checkpoint": "name", "restore": "name", "batch": "operations"}
        for name in METHODS[("dispatcher", "Dispatcher")]:
            self.assertEqual(
                " ".join(inspect.signature(getattr(Dispatcher, name)).parameters), ("self " + wanted.get(name, "")).strip())
        self.assertEqual(list(inspect.signature(Dispatcher).parameters), ["network"])


class RepeatedCallsTest(unittest.TestCase):

    def test_functions_in_any_order(self):
        calls = []
        for file, functions in FUNCTIONS.items():
            module = importlib.import_module("fullboats." + file)
            for name, lists in functions.items():
                calls += [(getattr(module, name), arguments) for arguments in lists]
        kept = copy.deepcopy([arguments for _, arguments in calls])
        wanted = [copy.deepcopy(ask(*call)) for call in calls]
        self.assertEqual({kind for kind, *_ in wanted}, {"returned", "raised"})
        chooser = random.Random(11)
        for _ in range(6):
            order = list(range(len(calls)))
            chooser.shuffle(order)
            for at in order:
                found = ask(*calls[at])
                with self.subTest(function=calls[at][0].__name__, arguments=calls[at][1]):
                    self.assertEqual(found, wanted[at])
                spoil(found[1])
        self.assertEqual([arguments for _, arguments in calls], kept)

    def test_two_dispatchers_used_in_turn(self):
        for seed in range(40):
            maker = CallMaker(seed)
            network = maker.network()
            pairs = [(Dispatcher(network), PlainDispatcher(network)) for _ in range(2)]
            for _ in range(60):
                dispatcher, plain = maker.chooser.choice(pairs)
                call = maker.call(plain)
                found = outcome(getattr(dispatcher, call[0]), *call[1:])
                self.assertEqual(found, outcome(plain.call, *copy.deepcopy(call)))
                spoil(found[1])
                for one, other in pairs:
                    told = tell(one)
                    self.assertEqual(told, other.told())
                    spoil(told)

    def test_two_observers_used_in_turn(self):
        questions = [
            ("see_boat", 0, 1, (0, 1, 2)), ("see_boat", 0, 1, (1, 2, 4)), ("see_departure", 1, 2, 4), ("see_finisher", "a", 1, 2),
            ("see_finisher", "d", 1, 2), ("candidates",), ("certain_lengths",), ("possible_finishers", "b", 2),
            ("best_number", "b", 3), ("best_number", "b", 0), ("history",)]
        chooser = random.Random(12)
        for _ in range(60):
            calls = [chooser.choice(questions) for _ in range(30)]
            alone = Observer(SMALL)
            wanted = [copy.deepcopy(outcome(getattr(alone, call[0]), *call[1:])) for call in calls]
            pair = [Observer(SMALL), Observer(SMALL)]
            at = [0, 0]
            while at != [30, 30]:
                which = chooser.choice([index for index in (0, 1) if at[index] < 30])
                call = calls[at[which]]
                found = outcome(getattr(pair[which], call[0]), *call[1:])
                self.assertEqual(found, wanted[at[which]])
                spoil(found[1])
                at[which] += 1

    def test_recovered_dispatchers_are_their_own(self):
        one, _ = recover(JOURNAL)
        other, _ = recover(JOURNAL)
        before = tell(other)
        one.redo()
        one.arrivals(5)
        one.checkpoint("z")
        with self.assertRaises(FerryError):
            one.leave(0)
        self.assertEqual(tell(other), before)


if __name__ == "__main__":
    unittest.main()
