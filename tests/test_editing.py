"""Tests of fullboats.editing: point 13, and point 1 as far as it speaks of these."""

import random
import unittest

from fullboats.editing import leave, replace_seat, send_early
from fullboats.errors import (
    EmptyBoat, InvalidNetwork, InvalidState, UnknownPassenger, UnknownSeat, UnknownStation)
from fullboats.networks import ports
from fullboats.states import arrive
from plain import EMPTY, SMALL, PlainRun, random_cases

BAD_NETWORK = (("a",), ("b", 1))
BESIDE = ((2, "a"), (2, "b", "z"), ("c", "a"))


class SendEarlyTest(unittest.TestCase):

    def test_examples_of_the_document(self):
        self.assertEqual(send_early(SMALL, (3, ((1, 2), (), ())), 0), ((3, ((), (1,), ())), [("a", 2)]))
        with self.assertRaises(EmptyBoat):
            send_early(SMALL, (3, ((1, 2), (), ())), 1)

    def test_against_a_plain_run(self):
        sent = 0
        for network, state in random_cases(131, 200):
            for station, queue in enumerate(state[1]):
                with self.subTest(network=network, state=state, station=station):
                    if not queue:
                        with self.assertRaises(EmptyBoat):
                            send_early(network, state, station)
                        continue
                    run = PlainRun(network, state)
                    finished = run.send(station)
                    self.assertEqual(send_early(network, state, station), (run.state(), finished))
                    sent += 1
        self.assertGreater(sent, 200)

    def test_one_passenger_and_all_but_one(self):
        network = (("a", "b", "c", "d", "e", "f", "g", "h"),)
        self.assertEqual(send_early(network, (9, ((4,),)), 0), ((9, ((),)), [("a", 4)]))
        self.assertEqual(
            send_early(network, (9, ((7, 6, 5, 4, 3, 2, 1),)), 0),
            ((9, ((),)), [("a", 7), ("b", 6), ("c", 5), ("d", 4), ("e", 3), ("f", 2), ("g", 1)]))

    def test_the_next_passenger_stays_the_same(self):
        state, _ = send_early(SMALL, (30, ((7,), (), ())), 0)
        self.assertEqual(state, (30, ((), (7,), ())))
        self.assertEqual(arrive(SMALL, state), ((31, ((30,), (7,), ())), []))

    def test_boats_that_fill_other_boats_several_deep(self):
        network = ((1, "x", 1, "y"), (2, "b", 2), (3, "c"), ("d", "e"))
        state = (20, ((5, 6, 7), (8, 9), (10,), (11,)))
        # 5 fills the boat of 8 and 9, of which 8 fills that of 10, and 10 that of 11.
        self.assertEqual(
            send_early(network, state, 0),
            ((20, ((), (7,), (5,), ())), [("d", 11), ("e", 10), ("c", 8), ("b", 9), ("x", 6)]))
        self.assertEqual(send_early(network, state, 1), (
            (20, ((5, 6, 7), (), (), ())), [("d", 11), ("e", 10), ("c", 8), ("b", 9)]))
        self.assertEqual(send_early(network, state, 3), ((20, ((5, 6, 7), (8, 9), (10,), ())), [("d", 11)]))

    def test_a_station_that_cannot_be_reached(self):
        state = (9, ((), (5, 3), (2,)))
        self.assertEqual(send_early(BESIDE, state, 1), ((9, ((), (), ())), [("c", 2), ("a", 5), ("b", 3)]))
        self.assertEqual(send_early(BESIDE, (9, ((), (5, 3), ())), 1), ((9, ((), (), (5,))), [("b", 3)]))
        with self.assertRaises(EmptyBoat):
            send_early(BESIDE, (9, ((1,), (), (2,))), 1)

    def test_empty_boats(self):
        for station in range(3):
            with self.subTest(station=station), self.assertRaises(EmptyBoat):
                send_early(SMALL, EMPTY, station)
        with self.assertRaises(EmptyBoat):
            send_early((("a",),), (5, ((),)), 0)

    def test_order_of_the_errors(self):
        with self.assertRaises(InvalidNetwork) as caught:
            send_early(BAD_NETWORK, (0, ()), 9)
        self.assertEqual((caught.exception.station, caught.exception.seat), (1, 1))
        for state in ((0, ((), (), ())), (3, ((1, 3), (), ())), (1, ())):
            with self.assertRaises(InvalidState):
                send_early(SMALL, state, 9)
        for station in (-1, -3, 3, 40):
            for state in (EMPTY, (9, ((1, 2), (3,), (4,)))):
                with self.subTest(station=station, state=state), self.assertRaises(UnknownStation):
                    send_early(SMALL, state, station)

    def test_arguments_stay_and_returned_lists_may_be_modified(self):
        network, state = ((1, "a", 1), (2, "b"), ("c", "b")), (3, ((1, 2), (), ()))
        for _ in range(2):
            after, finished = send_early(network, state, 0)
            self.assertEqual((after, finished), ((3, ((), (1,), ())), [("a", 2)]))
            finished.clear()
            with self.assertRaises(EmptyBoat):
                send_early(network, state, 2)
        self.assertEqual((network, state), (SMALL, (3, ((1, 2), (), ()))))
        self.assertEqual([type(after), type(after[1]), type(after[1][0])], [tuple] * 3)


class LeaveTest(unittest.TestCase):

    def test_example_of_the_document(self):
        self.assertEqual(leave(SMALL, (3, ((1, 2), (), ())), 1), (3, ((2,), (), ())))

    def test_from_each_place_of_a_queue(self):
        network = (("a",) * 5, ("b",) * 4)
        state = (30, ((9, 7, 20, 3), (8, 1, 5)))
        wanted = {
            9: ((7, 20, 3), (8, 1, 5)), 7: ((9, 20, 3), (8, 1, 5)), 20: ((9, 7, 3), (8, 1, 5)),
            3: ((9, 7, 20), (8, 1, 5)), 8: ((9, 7, 20, 3), (1, 5)), 1: ((9, 7, 20, 3), (8, 5)),
            5: ((9, 7, 20, 3), (8, 1))}
        for passenger, queues in wanted.items():
            with self.subTest(passenger=passenger):
                self.assertEqual(leave(network, state, passenger), (30, queues))

    def test_everybody_one_after_another(self):
        for network, state in random_cases(132, 60):
            waiting = [passenger for queue in state[1] for passenger in queue]
            random.Random(len(waiting)).shuffle(waiting)
            run = PlainRun(network, state)
            for passenger in waiting:
                for queue in run.queues:
                    if passenger in queue:
                        queue.remove(passenger)
                state = leave(network, state, passenger)
                with self.subTest(network=network, state=state, passenger=passenger):
                    self.assertEqual(state, run.state())
                    with self.assertRaises(UnknownPassenger):
                        leave(network, state, passenger)

    def test_a_station_that_cannot_be_reached(self):
        self.assertEqual(leave(BESIDE, (9, ((), (5, 3), (2,))), 5), (9, ((), (3,), (2,))))

    def test_passengers_who_do_not_wait(self):
        state = (9, ((1, 2), (), (5,)))
        for passenger in (0, -1, 3, 4, 6, 8, 9, 10, 10 ** 18):
            with self.subTest(passenger=passenger), self.assertRaises(UnknownPassenger):
                leave(SMALL, state, passenger)
        with self.assertRaises(UnknownPassenger):
            leave(SMALL, EMPTY, 1)

    def test_order_of_the_errors(self):
        with self.assertRaises(InvalidNetwork) as caught:
            leave(BAD_NETWORK, (0, ()), 9)
        self.assertEqual((caught.exception.station, caught.exception.seat), (1, 1))
        for state in ((0, ((), (), ())), (3, ((1, 3), (), ())), (1, ())):
            with self.assertRaises(InvalidState):
                leave(SMALL, state, 9)

    def test_arguments_stay(self):
        state = (3, ((1, 2), (), ()))
        for _ in range(2):
            after = leave(SMALL, state, 2)
            self.assertEqual(after, (3, ((1,), (), ())))
            self.assertEqual([type(after), type(after[1]), type(after[1][0])], [tuple] * 3)
        self.assertEqual(state, (3, ((1, 2), (), ())))


class ReplaceSeatTest(unittest.TestCase):

    def test_example_of_the_document(self):
        self.assertEqual(replace_seat((("a", "b"), ("c",)), 0, 1, 1), (("a", 1), ("c",)))

    def test_each_seat(self):
        for station, seats in enumerate(SMALL):
            for seat in range(len(seats)):
                changed = [list(row) for row in SMALL]
                changed[station][seat] = "new"
                self.assertEqual(replace_seat(SMALL, station, seat, "new"), tuple(map(tuple, changed)))

    def test_places(self):
        for place in (1, 2, "a", "z", "abcdefgh"):
            self.assertEqual(replace_seat(SMALL, 0, 1, place), ((1, place, 1), (2, "b"), ("c", "b")))
        self.assertEqual(replace_seat(SMALL, 0, 0, 1), SMALL)
        self.assertEqual(ports(replace_seat((("a", 1), ("b",)), 0, 1, "c")), ["a", "c"])

    def test_places_that_are_not_valid(self):
        for station, seat, places in (
                (0, 1, (0, -1, 3, 40, "", "A", "abcdefghi", "a b", "1")), (1, 1, (0, 1, 3)), (2, 0, (0, 1, 2, 3))):
            for place in places:
                with self.subTest(station=station, place=place), self.assertRaises(InvalidNetwork) as caught:
                    replace_seat(SMALL, station, seat, place)
                self.assertEqual((caught.exception.station, caught.exception.seat), (station, seat))

    def test_stations_and_seats_that_there_are_not(self):
        for station in (-1, -3, 3, 40):
            for seat, place in ((0, "a"), (-1, "A"), (9, 0)):
                with self.subTest(station=station, seat=seat), self.assertRaises(UnknownStation):
                    replace_seat(SMALL, station, seat, place)
        for station, seats in ((0, (-1, -3, 3, 8)), (1, (-1, 2, 3)), (2, (-1, 2))):
            for seat in seats:
                for place in ("a", "A", 0):
                    with self.subTest(station=station, seat=seat), self.assertRaises(UnknownSeat):
                        replace_seat(SMALL, station, seat, place)

    def test_an_invalid_network_comes_first(self):
        for station, seat, place in ((9, 9, "A"), (1, 1, "a"), (0, 9, "a"), (0, 0, "A")):
            with self.assertRaises(InvalidNetwork) as caught:
                replace_seat(BAD_NETWORK, station, seat, place)
            self.assertEqual((caught.exception.station, caught.exception.seat), (1, 1))

    def test_arguments_stay(self):
        network = ((1, "a", 1), (2, "b"), ("c", "b"))
        for _ in range(2):
            changed = replace_seat(network, 1, 0, "d")
            self.assertEqual(changed, ((1, "a", 1), ("d", "b"), ("c", "b")))
            self.assertEqual([type(changed)] + [type(seats) for seats in changed], [tuple] * 4)
            with self.assertRaises(UnknownSeat):
                replace_seat(network, 1, 2, "d")
        self.assertEqual(network, SMALL)


if __name__ == "__main__":
    unittest.main()
