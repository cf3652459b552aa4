"""Tests of fullboats.states: points 3 and 4, and point 1 as far as it speaks of states."""

import random
import unittest

from fullboats.errors import InvalidNetwork, InvalidState
from fullboats.states import arrive, initial_state
from plain import SMALL, PlainRun, chain, random_network

DEEP = ((1, "x", 1, "y"), (2, "b", 2), (3, "c"), ("d", "e"))


def arrive_with_pending_moves(network, state):
    """Do what arrive does by a list of moves still to be made, instead of nested departures."""
    run = PlainRun(network, state)
    finished = run.arrive()
    return run.state(), finished


class InitialStateTest(unittest.TestCase):

    def test_example_of_the_document(self):
        self.assertEqual(initial_state(((1, "a"), ("b",))), (1, ((), ())))

    def test_one_and_forty_stations(self):
        self.assertEqual(initial_state((("a",),)), (1, ((),)))
        self.assertEqual(initial_state(chain(40)), (1, ((),) * 40))

    def test_stations_that_cannot_be_reached_have_queues_too(self):
        self.assertEqual(initial_state((("a",), (2, "b"), ("c",))), (1, ((), (), ())))

    def test_it_is_valid(self):
        self.assertEqual(arrive(SMALL, initial_state(SMALL)), ((2, ((1,), (), ())), []))

    def test_invalid_networks(self):
        for network, station, seat in (((), 0, -1), ((("a", 0),), 0, 1), ((("a",), ()), 1, -1)):
            with self.subTest(network=network), self.assertRaises(InvalidNetwork) as caught:
                initial_state(network)
            self.assertEqual((caught.exception.station, caught.exception.seat), (station, seat))


class ValidStateTest(unittest.TestCase):

    def assert_valid(self, network, state):
        self.assertEqual(arrive(network, state), arrive_with_pending_moves(network, state))

    def test_queues_as_long_as_they_may_be(self):
        self.assert_valid(SMALL, (5, ((1, 2), (3,), (4,))))
        self.assert_valid((("a",) * 8,), (8, ((1, 2, 3, 4, 5, 6, 7),)))

    def test_waiting_passengers_from_1_to_the_one_before_the_next(self):
        self.assert_valid(SMALL, (2, ((), (1,), ())))
        self.assert_valid(SMALL, (100, ((99,), (1,), (50,))))

    def test_passengers_wait_in_any_order(self):
        self.assert_valid(SMALL, (4, ((), (3,), (1,))))
        self.assert_valid((("a", "b", "c"), ("d", "e", "f")), (5, ((3, 1), (4, 2))))

    def test_a_next_passenger_whom_nobody_precedes(self):
        self.assert_valid(SMALL, (1, ((), (), ())))
        self.assert_valid(SMALL, (1000, ((), (), ())))

    def test_big_numbers(self):
        self.assert_valid(SMALL, (10 ** 30, ((10 ** 30 - 1, 10 ** 30 - 2), (10 ** 18,), (10 ** 18 + 1,))))

    def test_passengers_at_stations_that_cannot_be_reached(self):
        self.assert_valid((("a",), ("b", "c", "d")), (3, ((), (2, 1))))


class InvalidStateTest(unittest.TestCase):

    def assert_invalid(self, network, state):
        with self.subTest(state=state), self.assertRaises(InvalidState):
            arrive(network, state)

    def test_example_of_the_document(self):
        self.assert_invalid(SMALL, (3, ((1, 3), (), ())))

    def test_next_passenger_below_1(self):
        for next_passenger in (0, -1, -10 ** 18):
            self.assert_invalid(SMALL, (next_passenger, ((), (), ())))

    def test_too_few_queues(self):
        for queues in ((), ((),), ((), ())):
            self.assert_invalid(SMALL, (1, queues))

    def test_too_many_queues(self):
        self.assert_invalid(SMALL, (1, ((), (), (), ())))
        self.assert_invalid((("a",),), (3, ((), (1,))))
        self.assert_invalid(chain(40), (1, ((),) * 41))

    def test_a_queue_as_long_as_the_boat(self):
        self.assert_invalid(SMALL, (9, ((1, 2, 3), (), ())))
        self.assert_invalid(SMALL, (9, ((), (1, 2), ())))
        self.assert_invalid(SMALL, (9, ((), (), (1, 2))))
        self.assert_invalid((("a",),), (9, ((1,),)))

    def test_a_queue_longer_than_the_boat(self):
        self.assert_invalid(SMALL, (9, ((1, 2, 3, 4), (), ())))
        self.assert_invalid(SMALL, (9, ((), (), (1, 2, 3))))
        self.assert_invalid((("a",),), (9, ((1, 2),)))

    def test_a_number_twice_in_one_queue(self):
        self.assert_invalid(SMALL, (9, ((4, 4), (), ())))

    def test_a_number_twice_in_two_queues(self):
        self.assert_invalid(SMALL, (9, ((4, 5), (5,), ())))
        self.assert_invalid(SMALL, (9, ((), (5,), (5,))))
        self.assert_invalid(SMALL, (9, ((5,), (), (5,))))

    def test_a_number_below_1(self):
        for passenger in (0, -1, -8):
            self.assert_invalid(SMALL, (9, ((passenger,), (), ())))
            self.assert_invalid(SMALL, (9, ((1, passenger), (), ())))
            self.assert_invalid(SMALL, (9, ((), (), (passenger,))))

    def test_a_number_not_less_than_the_next_passenger(self):
        for passenger in (9, 10, 10 ** 18):
            self.assert_invalid(SMALL, (9, ((passenger,), (), ())))
            self.assert_invalid(SMALL, (9, ((1, passenger), (), ())))
            self.assert_invalid(SMALL, (9, ((), (), (passenger,))))
        self.assert_invalid(SMALL, (1, ((), (1,), ())))

    def test_queues_of_stations_that_cannot_be_reached(self):
        network = (("a", "b", "c"), ("d", "e", "f"))
        for queue in ((1, 2, 3), (1, 2, 3, 4), (2, 2), (0,), (-1,), (9,), (10,)):
            self.assert_invalid(network, (9, ((), queue)))
        self.assert_invalid(network, (9, ((1, 2), (2,))))

    def test_invalid_network_comes_before_invalid_state(self):
        for state in ((0, ((),)), (1, ()), (1, ((1,),))):
            with self.subTest(state=state), self.assertRaises(InvalidNetwork) as caught:
                arrive((("a", 0),), state)
            self.assertEqual((caught.exception.station, caught.exception.seat), (0, 1))


class ArriveTest(unittest.TestCase):

    def test_example_of_the_document(self):
        self.assertEqual(arrive(SMALL, (3, ((1, 2), (), ()))), ((4, ((), (), (1,))), [("a", 2), ("b", 3)]))

    def test_no_departure(self):
        self.assertEqual(arrive(SMALL, (1, ((), (), ()))), ((2, ((1,), (), ())), []))
        self.assertEqual(arrive(SMALL, (9, ((4,), (8,), (2,)))), ((10, ((4, 9), (8,), (2,))), []))

    def test_one_departure(self):
        network = (("a", 1, "b"), ("c", "d", "e"))
        self.assertEqual(arrive(network, (7, ((5, 2), (6,)))), ((8, ((), (6, 2))), [("a", 5), ("b", 7)]))

    def test_passengers_take_the_seats_in_the_order_of_the_queue(self):
        network = (("a", "b", "c", "a"),)
        self.assertEqual(
            arrive(network, (9, ((7, 3, 5),))), ((10, ((),)), [("a", 7), ("b", 3), ("c", 5), ("a", 9)]))

    def test_boats_that_fill_other_boats_several_deep(self):
        # 5 fills the boat of station 1, of which 8 fills that of 2, of which 10 fills that of 3.
        # All of these are left before 6, 7 and 20 leave the first boat.
        state = (20, ((5, 6, 7), (8, 9), (10,), (11,)))
        finished = [("d", 11), ("e", 10), ("c", 8), ("b", 9), ("x", 6), ("y", 20)]
        self.assertEqual(arrive(DEEP, state), ((21, ((), (7,), (5,), ())), finished))

    def test_a_filled_boat_is_left_before_the_next_passenger_leaves_the_first_boat(self):
        # 1 travels on from station 1 and stands in the queue of station 2 ahead of 2.
        network = ((1, 2), (2,), ("p", "q", "r"))
        self.assertEqual(arrive(network, (3, ((1,), (), ()))), ((4, ((), (), (1, 3))), []))
        self.assertEqual(
            arrive(network, (4, ((1,), (), (2,)))),
            ((5, ((), (), ())), [("p", 2), ("q", 1), ("r", 4)]))

    def test_one_boat_fills_another_one_twice(self):
        network = ((1, 1, 1, 1, 1), ("a", "b"))
        self.assertEqual(
            arrive(network, (6, ((1, 2, 3, 4), ()))),
            ((7, ((), (6,))), [("a", 1), ("b", 2), ("a", 3), ("b", 4)]))
        self.assertEqual(
            arrive(network, (7, ((2, 3, 4, 5), (1,)))),
            ((8, ((), ())), [("a", 1), ("b", 2), ("a", 3), ("b", 4), ("a", 5), ("b", 7)]))

    def test_stations_of_a_single_seat(self):
        self.assertEqual(arrive((("a",),), (5, ((),))), ((6, ((),)), [("a", 5)]))
        self.assertEqual(arrive(chain(40), (1, ((),) * 40)), ((2, ((),) * 40), [("end", 1)]))
        network = ((1,), (2, "a"), ("b",))
        self.assertEqual(arrive(network, (1, ((), (), ()))), ((2, ((), (1,), ())), []))
        self.assertEqual(arrive(network, (2, ((), (1,), ()))), ((3, ((), (), ())), [("b", 1), ("a", 2)]))

    def test_forty_boats_that_fill_one_another(self):
        network = tuple(("p", station + 1) for station in range(39)) + (("p", "q"),)
        queues = tuple((station + 1,) for station in range(40))
        finished = [("p", passenger) for passenger in range(1, 41)] + [("q", 41)]
        self.assertEqual(arrive(network, (41, queues)), ((42, ((),) * 40), finished))

    def test_queues_that_cannot_be_reached_stay(self):
        network = ((2,), (2, "b", "c"), ("a", "d"))
        self.assertEqual(
            arrive(network, (5, ((), (4, 1), (3,)))), ((6, ((), (4, 1), ())), [("a", 3), ("d", 5)]))

    def test_arguments_stay_as_they_are(self):
        state = (20, ((5, 6, 7), (8, 9), (10,), (11,)))
        network = DEEP
        arrive(network, state)
        self.assertEqual(network, ((1, "x", 1, "y"), (2, "b", 2), (3, "c"), ("d", "e")))
        self.assertEqual(state, (20, ((5, 6, 7), (8, 9), (10,), (11,))))

    def test_the_same_call_twice_returns_the_same(self):
        state = (20, ((5, 6, 7), (8, 9), (10,), (11,)))
        first = arrive(DEEP, state)
        wanted = (first[0], list(first[1]))
        first[1].clear()
        self.assertEqual(arrive(DEEP, state), wanted)

    def test_a_call_that_raises_an_error_changes_nothing(self):
        state = (3, ((1, 2), (), ()))
        for bad in ((3, ((1, 3), (), ())), (0, ((), (), ()))):
            with self.assertRaises(InvalidState):
                arrive(SMALL, bad)
        self.assertEqual(arrive(SMALL, state), ((4, ((), (), (1,))), [("a", 2), ("b", 3)]))

    def test_kinds_of_values(self):
        result = arrive(DEEP, (20, ((5, 6, 7), (8, 9), (10,), (11,))))
        (state, finished) = result
        self.assertEqual([type(result), type(state), type(state[1])], [tuple] * 3)
        self.assertEqual([type(queue) for queue in state[1]], [tuple] * 4)
        self.assertEqual([type(finished)] + [type(entry) for entry in finished], [list] + [tuple] * 6)

    def test_many_arrivals_by_another_reckoning(self):
        chooser = random.Random(4)
        for trial in range(200):
            network = random_network(chooser, 12)
            state = initial_state(network)
            with self.subTest(network=network):
                for _ in range(60):
                    wanted = arrive_with_pending_moves(network, state)
                    self.assertEqual(arrive(network, state), wanted)
                    state = wanted[0]

    def test_everybody_waits_or_has_finished_once(self):
        chooser = random.Random(5)
        for trial in range(50):
            network = random_network(chooser, 40)
            state, everybody = initial_state(network), []
            for _ in range(80):
                state, finished = arrive(network, state)
                everybody += [passenger for _, passenger in finished]
            everybody += [passenger for queue in state[1] for passenger in queue]
            with self.subTest(network=network):
                self.assertEqual((state[0], sorted(everybody)), (81, list(range(1, 81))))


if __name__ == "__main__":
    unittest.main()
