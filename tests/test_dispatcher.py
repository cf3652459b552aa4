"""Tests of fullboats.dispatcher: points 14 and 15, and point 1 as far as it speaks of them."""

import unittest

from fullboats.counting import count_finished
from fullboats.dispatcher import Dispatcher
from fullboats.errors import (
    EmptyBoat, InvalidCount, InvalidName, InvalidNetwork, InvalidOperation, UnknownCheckpoint, UnknownPassenger,
    UnknownSeat, UnknownStation)
from fullboats.progress import FEW
from fullboats.states import initial_state
from fullboats.tracing import advance
from plain import random_cases
from plain_dispatcher import CallMaker, PlainDispatcher, outcome, tell

NETWORK = ((1, "a"), ("b", "c"))
BIG = 10 ** 18


class ExamplesTest(unittest.TestCase):

    def test_arrivals(self):
        self.assertEqual(Dispatcher(NETWORK).arrivals(4), {"a": 2, "b": 1, "c": 1})

    def test_send_early(self):
        dispatcher = Dispatcher(NETWORK)
        dispatcher.arrivals(3)
        self.assertEqual(dispatcher.send_early(1), [("b", 1)])
        with self.assertRaises(EmptyBoat):
            Dispatcher(NETWORK).send_early(0)

    def test_leave(self):
        dispatcher = Dispatcher(NETWORK)
        dispatcher.arrivals(1)
        self.assertIsNone(dispatcher.leave(1))
        self.assertEqual(dispatcher.current_state(), (2, ((), ())))

    def test_replace_seat(self):
        dispatcher = Dispatcher(NETWORK)
        self.assertIsNone(dispatcher.replace_seat(0, 0, "d"))
        self.assertEqual(dispatcher.current_network(), (("d", "a"), ("b", "c")))
        with self.assertRaises(InvalidNetwork) as caught:
            Dispatcher(NETWORK).replace_seat(0, 0, 0)
        self.assertEqual((caught.exception.station, caught.exception.seat), (0, 0))

    def test_checkpoint_and_restore(self):
        dispatcher = Dispatcher(NETWORK)
        dispatcher.arrivals(2)
        self.assertIsNone(dispatcher.checkpoint("x"))
        dispatcher.arrivals(5)
        self.assertIsNone(dispatcher.restore("x"))
        self.assertEqual([dispatcher.arrival_count(), dispatcher.checkpoint_names()], [2, ["x"]])
        with self.assertRaises(UnknownCheckpoint) as caught:
            Dispatcher(NETWORK).restore("y")
        self.assertEqual(caught.exception.name, "y")

    def test_batch(self):
        self.assertEqual(
            Dispatcher(NETWORK).batch([("arrivals", 3), ("send_early", 1)]), [{"a": 1}, [("b", 1)]])
        with self.assertRaises(InvalidOperation) as caught:
            Dispatcher(NETWORK).batch([("arrivals", 3), ("undo",)])
        self.assertEqual(caught.exception.index, 1)

    def test_undo_and_redo(self):
        dispatcher = Dispatcher(NETWORK)
        dispatcher.arrivals(3)
        self.assertEqual(
            [dispatcher.undo(), dispatcher.undo(), dispatcher.redo(), dispatcher.arrival_count()],
            [True, False, True, 3])

    def test_log_and_totals(self):
        dispatcher = Dispatcher(NETWORK)
        dispatcher.arrivals(3)
        dispatcher.undo()
        self.assertEqual([dispatcher.log(), dispatcher.totals()], [[("arrivals", 3), ("undo",)], {}])


class DispatcherTest(unittest.TestCase):

    def test_many_calls_against_a_plain_dispatcher(self):
        kinds = {}
        for seed in range(150):
            maker = CallMaker(seed)
            network = maker.network()
            dispatcher, plain = Dispatcher(network), PlainDispatcher(network)
            for _ in range(60):
                call = maker.call(plain)
                wanted = outcome(plain.call, *call)
                with self.subTest(network=network, log=plain.calls, call=call):
                    self.assertEqual(outcome(getattr(dispatcher, call[0]), *call[1:]), wanted)
                    self.assertEqual(tell(dispatcher), plain.told())
                kind = (call[0], wanted[1].__name__ if wanted[0] == "raised" else str(wanted[1] is not False))
                kinds[kind] = kinds.get(kind, 0) + 1
        for name in ("arrivals", "send_early", "leave", "replace_seat", "checkpoint", "restore", "batch"):
            self.assertGreater(kinds[(name, "True")], 50, name)
        for name in ("undo", "redo"):
            self.assertGreater(kinds[(name, "True")], 50, name)
            self.assertGreater(kinds[(name, "False")], 50, name)
        self.assertGreater(len(kinds), 25)

    def test_the_beginning(self):
        for network, _ in random_cases(141, 30):
            self.assertEqual(tell(Dispatcher(network)), [network, initial_state(network), 0, {}, [], []])
        for network, station, seat in (((), 0, -1), ((("a",), ("b", 1)), 1, 1), ((("a",),) * 41, 40, -1)):
            with self.assertRaises(InvalidNetwork) as caught:
                Dispatcher(network)
            self.assertEqual((caught.exception.station, caught.exception.seat), (station, seat))

    def test_few_and_many_arrivals(self):
        for network, _ in random_cases(142, 25):
            for count in (0, 1, FEW - 1, FEW, FEW + 1, 10 ** 9, BIG):
                dispatcher = Dispatcher(network)
                dispatcher.arrivals(7)
                state = dispatcher.current_state()
                with self.subTest(network=network, count=count):
                    self.assertEqual(dispatcher.arrivals(count), count_finished(network, state, count))
                    self.assertEqual(dispatcher.current_state(), advance(network, state, count))
                    self.assertEqual(dispatcher.arrival_count(), 7 + count)
                    self.assertEqual(dispatcher.totals(), count_finished(network, initial_state(network), 7 + count)
                                     if 7 + count <= BIG else dispatcher.totals())

    def test_arrivals_beyond_the_largest_count(self):
        dispatcher = Dispatcher((("a", "b"),))
        for times in (1, 2, 3):
            self.assertEqual(dispatcher.arrivals(BIG), {"a": BIG // 2, "b": BIG // 2})
            self.assertEqual(tell(dispatcher)[1:4], [
                (times * BIG + 1, ((),)), times * BIG, {"a": times * BIG // 2, "b": times * BIG // 2}])

    def check_error(self, dispatcher, error, method, *arguments, **attributes):
        before = tell(dispatcher)
        with self.subTest(method=method, arguments=arguments):
            with self.assertRaises(error) as caught:
                getattr(dispatcher, method)(*arguments)
            self.assertEqual(vars(caught.exception), attributes)
            self.assertEqual(tell(dispatcher), before)

    def test_errors_of_each_operation(self):
        dispatcher = Dispatcher(NETWORK)
        dispatcher.arrivals(3)
        for count in (-1, BIG + 1, -BIG):
            self.check_error(dispatcher, InvalidCount, "arrivals", count)
        for station in (-1, -2, 2, 40):
            self.check_error(dispatcher, UnknownStation, "send_early", station)
            self.check_error(dispatcher, UnknownStation, "replace_seat", station, -1, "A")
        for seat in (-1, 2, 8):
            self.check_error(dispatcher, UnknownSeat, "replace_seat", 1, seat, "A")
        for place in (0, 1, 2, -1, "", "A", "abcdefghi", "a1", "a b"):
            self.check_error(dispatcher, InvalidNetwork, "replace_seat", 1, 0, place, station=1, seat=0)
        for passenger in (0, -1, 2, 4, 5, BIG):
            self.check_error(dispatcher, UnknownPassenger, "leave", passenger)
        for name in ("", "abcdefghi", "A", "aB", "a1", "1", "a b", " a", "a_b", "\xe9"):
            self.check_error(dispatcher, InvalidName, "checkpoint", name, name=name)
            self.check_error(dispatcher, UnknownCheckpoint, "restore", name, name=name)
        self.check_error(dispatcher, UnknownCheckpoint, "restore", "a", name="a")
        dispatcher.send_early(0)
        self.check_error(dispatcher, EmptyBoat, "send_early", 0)

    def test_names_of_checkpoints(self):
        dispatcher = Dispatcher(NETWORK)
        for name in ("z", "abcdefgh", "a", "undo"):
            dispatcher.checkpoint(name)
        dispatcher.checkpoint("z")
        self.assertEqual(dispatcher.checkpoint_names(), ["a", "abcdefgh", "undo", "z"])

    def test_a_checkpoint_that_is_replaced_restored_and_undone(self):
        dispatcher = Dispatcher(NETWORK)
        dispatcher.arrivals(2)
        dispatcher.checkpoint("x")
        dispatcher.arrivals(3)
        dispatcher.checkpoint("x")
        dispatcher.arrivals(1)
        dispatcher.restore("x")
        self.assertEqual(dispatcher.arrival_count(), 5)
        self.assertTrue(dispatcher.undo())
        self.assertEqual(dispatcher.arrival_count(), 6)
        dispatcher.undo()
        self.assertTrue(dispatcher.undo())
        self.assertEqual((dispatcher.arrival_count(), dispatcher.checkpoint_names()), (5, ["x"]))
        dispatcher.restore("x")
        self.assertEqual(dispatcher.arrival_count(), 2)
        # The earlier checkpoint stays, and nothing can be redone any more.
        self.assertFalse(dispatcher.redo())
        for _ in range(4):
            self.assertTrue(dispatcher.undo())
            names = dispatcher.checkpoint_names()
        self.assertFalse(dispatcher.undo())
        self.assertEqual((names, tell(dispatcher)[1:5]), ([], [(1, ((), ())), 0, {}, []]))
        self.check_error(dispatcher, UnknownCheckpoint, "restore", "x", name="x")

    def test_restore_behind_replace_seat(self):
        dispatcher = Dispatcher(NETWORK)
        dispatcher.arrivals(1)
        dispatcher.checkpoint("x")
        dispatcher.replace_seat(0, 0, "d")
        dispatcher.arrivals(3)
        self.assertEqual(dispatcher.totals(), {"d": 2, "a": 2})
        dispatcher.checkpoint("y")
        dispatcher.restore("x")
        self.assertEqual(tell(dispatcher)[:5], [NETWORK, (2, ((1,), ())), 1, {}, ["x", "y"]])
        dispatcher.restore("y")
        self.assertEqual(tell(dispatcher)[:5], [(("d", "a"), ("b", "c")), (5, ((), ())), 4, {"d": 2, "a": 2}, ["x", "y"]])
        dispatcher.undo()
        self.assertEqual(dispatcher.current_network(), NETWORK)
        dispatcher.redo()
        self.assertEqual(dispatcher.current_network(), (("d", "a"), ("b", "c")))

    def test_checkpoints_do_not_change(self):
        dispatcher = Dispatcher(NETWORK)
        dispatcher.arrivals(4)
        dispatcher.checkpoint("x")
        for _ in range(3):
            dispatcher.arrivals(5)
            dispatcher.send_early(0)
            dispatcher.totals()["a"] = 99
            dispatcher.restore("x")
            self.assertEqual(tell(dispatcher)[:5], [NETWORK, (5, ((), ())), 4, {"a": 2, "b": 1, "c": 1}, ["x"]])

    def test_totals(self):
        dispatcher = Dispatcher(NETWORK)
        dispatcher.arrivals(3)
        self.assertEqual(dispatcher.totals(), {"a": 1})
        dispatcher.send_early(1)
        self.assertEqual(dispatcher.totals(), {"a": 1, "b": 1})
        dispatcher.checkpoint("x")
        dispatcher.send_early(0)
        dispatcher.arrivals(2)
        self.assertEqual(dispatcher.totals(), {"a": 2, "b": 2, "c": 1})
        self.assertEqual(dispatcher.arrival_count(), 5)
        dispatcher.undo()
        self.assertEqual(dispatcher.totals(), {"a": 1, "b": 1})
        dispatcher.redo()
        dispatcher.restore("x")
        self.assertEqual(dispatcher.totals(), {"a": 1, "b": 1})
        dispatcher.leave(3)
        dispatcher.replace_seat(0, 1, "e")
        dispatcher.arrivals(2)
        self.assertEqual(dispatcher.totals(), {"a": 1, "b": 1, "e": 1})

    def test_redo_behind_other_calls(self):
        dispatcher = Dispatcher(NETWORK)
        dispatcher.arrivals(1)
        dispatcher.arrivals(2)
        dispatcher.undo()
        # What fails, or reverts nothing, lets redo stay as it is.
        self.check_error(dispatcher, EmptyBoat, "send_early", 1)
        self.check_error(dispatcher, InvalidCount, "arrivals", -1)
        self.check_error(dispatcher, InvalidOperation, "batch", [("redo",)], index=0)
        self.check_error(dispatcher, UnknownPassenger, "batch", [("arrivals", 1), ("leave", 9)])
        dispatcher.undo()
        self.assertFalse(dispatcher.undo())
        self.assertEqual([dispatcher.redo(), dispatcher.redo(), dispatcher.redo()], [True, True, False])
        self.assertEqual(dispatcher.arrival_count(), 3)
        # An operation ends it, also one without effect, and one that is undone again.
        for operation in (("arrivals", 0), ("batch", ()), ("checkpoint", "x"), ("arrivals", 5)):
            dispatcher.undo()
            getattr(dispatcher, operation[0])(operation[1])
            self.assertFalse(dispatcher.redo(), operation)
            dispatcher.undo()
            self.assertTrue(dispatcher.redo(), operation)
            self.assertFalse(dispatcher.redo(), operation)

    def test_undo_behind_redo(self):
        dispatcher = Dispatcher(NETWORK)
        for count in (1, 2, 4):
            dispatcher.arrivals(count)
        counts = []
        for name in ("undo", "undo", "redo", "undo", "undo", "undo", "redo", "redo", "redo", "redo", "undo"):
            done = getattr(dispatcher, name)()
            counts.append((done, dispatcher.arrival_count()))
        self.assertEqual(counts, [
            (True, 3), (True, 1), (True, 3), (True, 1), (True, 0), (False, 0), (True, 1), (True, 3), (True, 7),
            (False, 7), (True, 3)])
        self.assertEqual(dispatcher.log(), [("arrivals", 1), ("arrivals", 2), ("arrivals", 4)] + [
            (name,) for name in ("undo", "undo", "redo", "undo", "undo", "redo", "redo", "redo", "undo")])

    def test_log(self):
        dispatcher = Dispatcher(NETWORK)
        dispatcher.undo()
        dispatcher.redo()
        dispatcher.arrivals(3)
        dispatcher.send_early(1)
        dispatcher.leave(3)
        dispatcher.replace_seat(0, 1, 1)
        dispatcher.replace_seat(0, 1, "z")
        dispatcher.checkpoint("x")
        dispatcher.restore("x")
        dispatcher.batch([("arrivals", 0), ("checkpoint", "y")])
        dispatcher.batch(())
        dispatcher.undo()
        dispatcher.redo()
        dispatcher.redo()
        self.assertEqual(dispatcher.log(), [
            ("arrivals", 3), ("send_early", 1), ("leave", 3), ("replace_seat", 0, 1, 1), ("replace_seat", 0, 1, "z"),
            ("checkpoint", "x"), ("restore", "x"), ("batch", (("arrivals", 0), ("checkpoint", "y"))), ("batch", ()),
            ("undo",), ("redo",)])

    def test_two_dispatchers_of_one_network(self):
        one, other = Dispatcher(NETWORK), Dispatcher(NETWORK)
        one.arrivals(3)
        one.checkpoint("x")
        one.replace_seat(0, 0, "d")
        self.assertEqual(tell(other), tell(Dispatcher(NETWORK)))
        other.arrivals(4)
        self.assertFalse(other.redo())
        other.undo()
        self.assertEqual(tell(one)[1:5], [(4, ((3,), (1,))), 3, {"a": 1}, ["x"]])
        self.assertEqual(len(one.log()), 3)
        self.assertEqual(tell(other)[:5], [NETWORK, (1, ((), ())), 0, {}, []])

    def test_returned_values_may_be_modified(self):
        dispatcher, plain = Dispatcher(NETWORK), PlainDispatcher(NETWORK)
        for call in (("arrivals", 3), ("send_early", 1), ("checkpoint", "x"),
                     ("batch", [("arrivals", 5), ("send_early", 1)]), ("undo",), ("redo",), ("restore", "x")):
            wanted = plain.call(*call)
            result = getattr(dispatcher, call[0])(*call[1:])
            self.assertEqual(result, wanted)
            for part in [result] + (result if call[0] == "batch" else []):
                if isinstance(part, (list, dict)):
                    part.clear()
            for part in tell(dispatcher)[3:]:
                part.clear()
            self.assertEqual(tell(dispatcher), plain.told())


class BatchTest(unittest.TestCase):

    def test_a_list_and_a_tuple(self):
        for kind in (list, tuple):
            dispatcher = Dispatcher(NETWORK)
            operations = kind([("arrivals", 3), ("leave", 3), ("checkpoint", "x"), ("send_early", 1),
                               ("replace_seat", 1, 1, "z"), ("arrivals", 4), ("restore", "x"), ("arrivals", 0)])
            given = kind(operations)
            self.assertEqual(
                dispatcher.batch(operations), [{"a": 1}, None, None, [("b", 1)], None, {"a": 2, "b": 1, "z": 1}, None, {}])
            self.assertEqual(operations, given)
            self.assertEqual(tell(dispatcher), [
                NETWORK, (4, ((), (1,))), 3, {"a": 1}, ["x"], [("batch", tuple(given))]])

    def test_the_list_may_change_later(self):
        dispatcher = Dispatcher(NETWORK)
        operations = [("arrivals", 3)]
        dispatcher.batch(operations)
        operations.append(("arrivals", 4))
        self.assertEqual(dispatcher.log(), [("batch", (("arrivals", 3),))])

    def test_one_operation_for_undo_and_redo(self):
        dispatcher = Dispatcher(NETWORK)
        dispatcher.arrivals(1)
        dispatcher.batch([("checkpoint", "x"), ("arrivals", 1), ("replace_seat", 0, 0, "d"), ("arrivals", 2)])
        after = tell(dispatcher)[:5]
        self.assertTrue(dispatcher.undo())
        self.assertEqual(tell(dispatcher)[:5], [NETWORK, (2, ((1,), ())), 1, {}, []])
        self.assertTrue(dispatcher.redo())
        self.assertEqual(tell(dispatcher)[:5], after)
        self.assertEqual([dispatcher.undo(), dispatcher.undo(), dispatcher.undo()], [True, True, False])

    def test_no_operations(self):
        for operations in ([], ()):
            dispatcher = Dispatcher(NETWORK)
            dispatcher.arrivals(2)
            dispatcher.undo()
            self.assertEqual(dispatcher.batch(operations), [])
            self.assertEqual(dispatcher.log(), [("arrivals", 2), ("undo",), ("batch", ())])
            self.assertEqual([dispatcher.redo(), dispatcher.undo(), dispatcher.undo(), dispatcher.redo()],
                             [False, True, False, True])

    def test_entries_that_are_no_operations(self):
        wrong = [
            ["arrivals", 1], "arrivals", 5, None, (), ("",), ("arrival", 1), ("Arrivals", 1), (1, 2), (None,), ([], 1),
            (("arrivals",), 1), ("undo",), ("redo",), ("batch", ()), ("batch", (("arrivals", 1),)), ("log",), ("totals",),
            ("checkpoint_names",), ("current_state",), ("__init__", NETWORK), ("perform", 1), ("operate", 1),
            ("arrivals",), ("arrivals", 1, 2), ("send_early",), ("send_early", 0, 1), ("leave",), ("leave", 1, 1),
            ("replace_seat", 0, 0), ("replace_seat", 0, 0, "a", "b"), ("replace_seat",), ("checkpoint",),
            ("checkpoint", "x", "y"), ("restore",), ("restore", "x", "y")]
        dispatcher = Dispatcher(NETWORK)
        dispatcher.arrivals(3)
        dispatcher.arrivals(1)
        dispatcher.undo()
        before = tell(dispatcher)
        for entry in wrong:
            for first, index in (([], 0), ([("arrivals", 1)], 1), ([("arrivals", -1), ("leave", 99)], 2)):
                for kind in (list, tuple):
                    with self.subTest(entry=entry, index=index):
                        with self.assertRaises(InvalidOperation) as caught:
                            dispatcher.batch(kind(first + [entry, ("arrivals", 1), entry]))
                        self.assertEqual(vars(caught.exception), {"index": index})
                        self.assertEqual(tell(dispatcher), before)
        self.assertTrue(dispatcher.redo())

    def test_an_operation_that_fails(self):
        for operation, error, attributes in (
                (("arrivals", -1), InvalidCount, {}), (("send_early", 5), UnknownStation, {}),
                (("send_early", 1), EmptyBoat, {}), (("leave", 5), UnknownPassenger, {}),
                (("replace_seat", 2, 0, "a"), UnknownStation, {}), (("replace_seat", 0, 2, "a"), UnknownSeat, {}),
                (("replace_seat", 0, 1, 0), InvalidNetwork, {"station": 0, "seat": 1}),
                (("checkpoint", "X"), InvalidName, {"name": "X"}),
                (("restore", "z"), UnknownCheckpoint, {"name": "z"})):
            dispatcher = Dispatcher(NETWORK)
            dispatcher.checkpoint("y")
            dispatcher.arrivals(3)
            dispatcher.undo()
            before = tell(dispatcher)
            # Later operations would fail, too, but are not reached.
            operations = [("arrivals", 4), ("checkpoint", "x"), ("checkpoint", "y"), ("replace_seat", 0, 0, "d"),
                          ("restore", "x"), operation, ("arrivals", -5), ("restore", "none")]
            with self.subTest(operation=operation):
                with self.assertRaises(error) as caught:
                    dispatcher.batch(operations)
                self.assertEqual(vars(caught.exception), attributes)
                self.assertEqual(tell(dispatcher), before)
                self.assertTrue(dispatcher.redo())
                dispatcher.restore("y")
                self.assertEqual(dispatcher.arrival_count(), 0)

    def test_operations_build_on_each_other(self):
        dispatcher = Dispatcher(NETWORK)
        self.assertEqual(
            dispatcher.batch([("arrivals", 1), ("replace_seat", 0, 0, "z"), ("send_early", 0), ("arrivals", 2)]),
            [{}, None, [("z", 1)], {"z": 1, "a": 1}])
        self.assertEqual(dispatcher.totals(), {"z": 2, "a": 1})


if __name__ == "__main__":
    unittest.main()
