"""Tests of fullboats.tracing: points 5 and 6, and point 1 as far as it speaks of these."""

import random
import unittest

from fullboats.counting import count_boats, count_finished
from fullboats.errors import InvalidCount, InvalidNetwork, InvalidState, UnknownStation
from fullboats.rates import period
from fullboats.routes import route
from fullboats.states import arrive, initial_state
from fullboats.tracing import advance, boat, finisher
from plain import (
    EMPTY, SMALL, PlainRun, chain, random_cases, random_network, random_state, reached_from_start, reached_ports)

MOST = 10 ** 18
# Boats of 0 fill those of 1 and 2, whose boats fill one another's queues in turns.
MIXED = ((1, 2, 1, 2), (2, "a", 3), (3, "b"), ("c", "d"))
# The second seat of station 0 leads past station 1, which nobody reaches.
BESIDE = ((2, "a"), (2, "b", "z"), ("c", "a"))


class AdvanceTest(unittest.TestCase):

    def test_example_of_the_document(self):
        self.assertEqual(advance(SMALL, EMPTY, 10), (11, ((10,), (), (7,))))

    def test_against_a_plain_run(self):
        for network, state in random_cases(61, 150):
            run = PlainRun(network, state)
            with self.subTest(network=network, state=state):
                for count in range(61):
                    self.assertEqual(advance(network, state, count), run.state())
                    run.arrive()

    def test_against_arrive(self):
        for network, state in random_cases(62, 30):
            after = state
            for count in range(31):
                with self.subTest(network=network, state=state, count=count):
                    self.assertEqual(advance(network, state, count), after)
                after, _ = arrive(network, after)

    def test_big_networks_against_a_plain_run(self):
        for network, state in random_cases(63, 12, most_stations=40, most_seats=8):
            run = PlainRun(network, state)
            with self.subTest(network=network, state=state):
                for count in (1, 6, 93, 400):
                    run.arrive(count)
                    self.assertEqual(advance(network, state, run.time), run.state())

    def test_boats_that_fill_other_boats_several_deep(self):
        network = ((1, "x", 1, "y"), (2, "b", 2), (3, "c"), ("d", "e"))
        state = (20, ((5, 6, 7), (8, 9), (10,), (11,)))
        self.assertEqual(advance(network, state, 1), (21, ((), (7,), (5,), ())))

    def test_queues_that_cannot_be_reached_stay(self):
        network = ((2,), (2, "b", "c"), ("a", "d"))
        state = (5, ((), (4, 1), (3,)))
        self.assertEqual(advance(network, state, MOST), (MOST + 5, ((), (4, 1), (MOST + 4,))))

    def test_no_arrivals(self):
        for network, state in random_cases(64, 30):
            self.assertEqual(advance(network, state, 0), state)

    def test_far_states_by_the_period(self):
        for network, state in random_cases(65, 60, most_stations=6):
            arrivals = period(network)
            # Whoever waits at the beginning has left by then, if not at a station nobody reaches.
            near = len(network) * arrivals + MOST % arrivals
            run = PlainRun(network, state)
            run.arrive(near)
            shift = MOST - near
            reached = reached_from_start(network)
            queues = []
            for station, queue in enumerate(run.state()[1]):
                queues.append(tuple(p + shift for p in queue) if station in reached else queue)
            with self.subTest(network=network, state=state):
                self.assertEqual(advance(network, state, MOST), (state[0] + MOST, tuple(queues)))

    def test_forty_stations_and_two_parts(self):
        chooser = random.Random(66)
        for _ in range(4):
            network = random_network(chooser, 40, 8, fewest_stations=40)
            state = random_state(chooser, network)
            first = chooser.randrange(MOST)
            for parts in ((first, MOST - first), (1, MOST - 1), (MOST - 1, 1), (MOST, 0), (1000, 1000)):
                with self.subTest(network=network, state=state, parts=parts):
                    between = advance(network, state, parts[0])
                    self.assertEqual(advance(network, between, parts[1]), advance(network, state, sum(parts)))

    def test_forty_stations_of_eight_seats(self):
        last = tuple("abcdefgh")
        deep = tuple((station + 1,) * 7 + ("p",) for station in range(39)) + (last,)
        rare = tuple((station + 1,) + ("p",) * 7 for station in range(39)) + (last,)
        wide = tuple(tuple(min(station + step, 39) for step in range(1, 9)) for station in range(39)) + (last,)
        for network in (deep, rare, wide):
            state = initial_state(network)
            first = 123456789012345678
            with self.subTest(network=network):
                between = advance(network, state, first)
                self.assertEqual(advance(network, between, MOST - first), advance(network, state, MOST))

    def test_one_arrival_more(self):
        chooser = random.Random(67)
        for _ in range(3):
            network = random_network(chooser, 40, 8, fewest_stations=40)
            state = random_state(chooser, network)
            count = chooser.randrange(MOST)
            after = advance(network, state, count)
            for more in range(5):
                after, _ = arrive(network, after)
                with self.subTest(network=network, state=state, count=count + more):
                    self.assertEqual(advance(network, state, count + more + 1), after)

    def test_the_least_and_the_most_count(self):
        for count in (-1, -MOST, MOST + 1):
            with self.subTest(count=count), self.assertRaises(InvalidCount):
                advance(SMALL, EMPTY, count)
        self.assertEqual(advance(SMALL, EMPTY, 1), (2, ((1,), (), ())))
        self.assertEqual(advance((("a", "b"),), (1, ((),)), MOST), (MOST + 1, ((),)))

    def test_big_numbers_of_passengers(self):
        state = (10 ** 30, ((10 ** 20, 5), (7,), ()))
        self.assertEqual(advance(SMALL, state, 1), (10 ** 30 + 1, ((), (10 ** 30,), (7,))))


class BoatTest(unittest.TestCase):

    def test_example_of_the_document(self):
        self.assertEqual(boat(SMALL, EMPTY, 2, 1), ((1, 4), 6))
        with self.assertRaises(UnknownStation):
            boat(SMALL, EMPTY, 3, 1)

    def test_against_a_plain_run(self):
        for network, state in random_cases(71, 120):
            run = PlainRun(network, state)
            run.arrive(60)
            with self.subTest(network=network, state=state):
                for station, boats in run.boats.items():
                    for number, wanted in enumerate(boats, start=1):
                        self.assertEqual(boat(network, state, station, number), wanted)

    def test_passengers_who_waited_at_the_beginning(self):
        state = (9, ((7, 3), (5,), (8,)))
        self.assertEqual(boat(SMALL, state, 0, 1), ((7, 3, 9), 1))
        self.assertEqual(boat(SMALL, state, 1, 1), ((5, 7), 1))
        self.assertEqual(boat(SMALL, state, 2, 1), ((8, 5), 1))
        self.assertEqual(boat(SMALL, state, 1, 2), ((9, 10), 4))

    def test_a_filled_boat_is_left_before_the_next_passenger_leaves_the_first_boat(self):
        network = ((1, 2), (2,), ("p", "q", "r"))
        self.assertEqual(boat(network, (1, ((), (), ())), 2, 1), ((1, 2, 3), 4))
        network = ((1, 2, 1), (2, "a"), ("p", "q", "r"))
        self.assertEqual(boat(network, (1, ((), (), ())), 2, 1), ((2, 1, 5), 6))
        self.assertEqual(boat(network, (8, ((1, 2), (3,), (4,))), 2, 1), ((4, 3, 2), 1))

    def test_single_seats(self):
        network = chain(40)
        for station in (0, 1, 39):
            self.assertEqual(boat(network, initial_state(network), station, 7), ((7,), 7))
            self.assertEqual(boat(network, initial_state(network), station, MOST), ((MOST,), MOST))

    def test_the_least_and_the_most_number(self):
        for number in (0, -1, -MOST, MOST + 1):
            for station in range(3):
                with self.subTest(number=number, station=station), self.assertRaises(InvalidCount):
                    boat(BESIDE, (1, ((), (), ())), station, number)
        self.assertEqual(boat(SMALL, EMPTY, 0, 1), ((1, 2, 3), 3))
        self.assertEqual(boat(SMALL, EMPTY, 0, MOST), ((3 * MOST - 2, 3 * MOST - 1, 3 * MOST), 3 * MOST))
        # By periods of six arrivals: the boat before was that of the passengers 1 and 4 at time 6.
        shift = 6 * (MOST - 1)
        self.assertEqual(boat(SMALL, EMPTY, 2, MOST), ((1 + shift, 4 + shift), 6 + shift))

    def test_a_station_that_cannot_be_reached(self):
        state = (4, ((), (3, 1), (2,)))
        for number in (1, 2, MOST):
            self.assertIsNone(boat(BESIDE, state, 1, number))
        self.assertEqual(boat(BESIDE, state, 2, 1), ((2, 4), 2))

    def test_stations_that_there_are_not(self):
        for station in (-1, 3, 40, -3):
            for number in (1, 0, MOST + 1):
                with self.subTest(station=station, number=number), self.assertRaises(UnknownStation):
                    boat(SMALL, EMPTY, station, number)

    def test_far_boats_by_the_period(self):
        for network, state in random_cases(72, 40, most_stations=5):
            arrivals = period(network)
            run = PlainRun(network, state)
            run.arrive((len(network) + 1) * arrivals)
            for station in reached_from_start(network):
                boats = run.boats[station]
                each = sum(time > len(network) * arrivals for _, time in boats)
                at = len(boats) - each + (MOST - 1 - len(boats)) % each
                periods = (MOST - 1 - at) // each
                passengers, time = boats[at]
                wanted = (tuple(p + periods * arrivals for p in passengers), time + periods * arrivals)
                with self.subTest(network=network, state=state, station=station):
                    self.assertEqual(boat(network, state, station, MOST), wanted)

    def test_far_boats_agree_with_what_is_counted(self):
        chooser = random.Random(73)
        for _ in range(6):
            network = random_network(chooser, 40, 8, fewest_stations=40)
            state = random_state(chooser, network)
            reached = sorted(reached_from_start(network))
            station = chooser.choice(reached)
            count = chooser.randrange(MOST // 2, MOST)
            number = count_boats(network, state, count)[station] + 1
            passengers, time = boat(network, state, station, number)
            with self.subTest(network=network, state=state, station=station, number=number):
                self.assertGreater(time, count)
                self.assertEqual(count_boats(network, state, time - 1)[station], number - 1)
                self.assertGreaterEqual(count_boats(network, state, time)[station], number)
                waiting = advance(network, state, time - 1)[1][station]
                self.assertEqual(passengers[:len(waiting)], waiting)
                self.assertEqual(passengers[:1], boat(network, advance(network, state, time - 1), station, 1)[0][:1])
                for seat, passenger in enumerate(passengers):
                    self.assertIn((station, number, seat, time), route(network, state, passenger)[0])

    def test_a_boat_that_departs_rarely(self):
        network = tuple(("p",) * 7 + (station + 1,) for station in range(39)) + (("p",) * 7 + ("q",),)
        state = initial_state(network)
        passengers, time = boat(network, state, 39, MOST)
        self.assertEqual(time, MOST * 8 ** 40)
        self.assertEqual(passengers, tuple(MOST * 8 ** 40 - seat * 8 ** 39 for seat in reversed(range(8))))
        self.assertEqual(finisher(network, state, "q", MOST), (MOST * 8 ** 40, MOST * 8 ** 40))

    def test_kinds_of_values(self):
        found = boat(SMALL, EMPTY, 1, 1)
        self.assertEqual([type(found), type(found[0])], [tuple, tuple])


class FinisherTest(unittest.TestCase):

    def test_example_of_the_document(self):
        self.assertEqual(finisher(SMALL, EMPTY, "b", 3), (6, 6))

    def test_against_a_plain_run(self):
        for network, state in random_cases(81, 120):
            run = PlainRun(network, state)
            run.arrive(60)
            with self.subTest(network=network, state=state):
                for port, finishers in run.finishers.items():
                    for number, wanted in enumerate(finishers, start=1):
                        self.assertEqual(finisher(network, state, port, number), wanted)

    def test_passengers_who_waited_at_the_beginning(self):
        state = (9, ((7, 3), (5,), (8,)))
        found = [finisher(SMALL, state, "b", number) for number in (1, 2, 3)]
        self.assertEqual(found, [(5, 1), (7, 1), (10, 4)])
        self.assertEqual(finisher(SMALL, state, "c", 1), (8, 1))
        self.assertEqual(finisher(SMALL, state, "a", 1), (3, 1))

    def test_the_least_and_the_most_number(self):
        for number in (0, -1, MOST + 1):
            for port in ("a", "b", "z", "nowhere"):
                with self.subTest(number=number, port=port), self.assertRaises(InvalidCount):
                    finisher(BESIDE, (1, ((), (), ())), port, number)
        self.assertEqual(finisher(SMALL, EMPTY, "a", 1), (2, 3))
        self.assertEqual(finisher(SMALL, EMPTY, "a", MOST), (3 * MOST - 1, 3 * MOST))

    def test_a_port_that_cannot_be_reached(self):
        state = (4, ((), (3, 1), (2,)))
        for port in ("b", "z", "nowhere", "c" * 9, "", "C"):
            for number in (1, MOST):
                self.assertIsNone(finisher(BESIDE, state, port, number))

    def test_a_port_to_which_several_stations_lead(self):
        network = (("a", 1, "a"), ("a", 2), ("a",))
        state = initial_state(network)
        found = [finisher(network, state, "a", number) for number in range(1, 7)]
        self.assertEqual(found, [(1, 3), (3, 3), (4, 6), (2, 6), (5, 6), (6, 6)])

    def test_far_finishers_agree_with_what_is_counted(self):
        chooser = random.Random(82)
        for _ in range(10):
            network = random_network(chooser, 40, 8, fewest_stations=40)
            state = random_state(chooser, network)
            port = chooser.choice(sorted(reached_ports(network)))
            count = chooser.randrange(MOST // 2, MOST)
            number = count_finished(network, state, count)[port] + 1
            passenger, time = finisher(network, state, port, number)
            with self.subTest(network=network, state=state, port=port, number=number):
                self.assertGreater(time, count)
                self.assertEqual(count_finished(network, state, time - 1)[port], number - 1)
                self.assertGreaterEqual(count_finished(network, state, time)[port], number)
                legs, end, end_number = route(network, state, passenger)
                self.assertEqual((legs[-1][3], end, end_number), (time, port, number))
                near = advance(network, state, time - 1)
                finished = [who for where, who in arrive(network, near)[1] if where == port]
                self.assertEqual(finished[0], passenger)

    def test_most_number_in_big_networks(self):
        chooser = random.Random(83)
        for _ in range(4):
            network = random_network(chooser, 40, 8, fewest_stations=40)
            state = random_state(chooser, network)
            for port in sorted(reached_ports(network)):
                passenger, time = finisher(network, state, port, MOST)
                self.assertEqual(route(network, state, passenger)[1:] if passenger <= state[0] + MOST else None,
                                 (port, MOST) if passenger <= state[0] + MOST else None)
                self.assertLess(passenger, state[0] + time)


class SharedTest(unittest.TestCase):
    """What holds for all functions of the file."""

    def test_order_of_the_errors(self):
        bad_network = (("a",), ("b", 1))
        calls = (
            lambda network, state: advance(network, state, -1),
            lambda network, state: boat(network, state, 50, -1),
            lambda network, state: finisher(network, state, "q", -1),
        )
        for call in calls:
            with self.assertRaises(InvalidNetwork) as caught:
                call(bad_network, (0, ((), ())))
            self.assertEqual((caught.exception.station, caught.exception.seat), (1, 1))
            for state in ((0, ((), (), ())), (3, ((1, 3), (), ())), (1, ())):
                with self.assertRaises(InvalidState):
                    call(SMALL, state)

    def test_arguments_stay_and_errors_change_nothing(self):
        network, state = ((1, "a", 1), (2, "b"), ("c", "b")), (1, ((), (), ()))
        for _ in range(2):
            self.assertEqual(advance(network, state, 10), (11, ((10,), (), (7,))))
            self.assertEqual(boat(network, state, 2, 1), ((1, 4), 6))
            self.assertEqual(finisher(network, state, "b", 3), (6, 6))
            with self.assertRaises(InvalidCount):
                advance(network, state, -1)
            with self.assertRaises(InvalidCount):
                boat(network, state, 1, 0)
            with self.assertRaises(InvalidCount):
                finisher(network, state, "b", 0)
        self.assertEqual((network, state), (SMALL, EMPTY))

    def test_mixed_boats(self):
        run = PlainRun(MIXED, initial_state(MIXED))
        run.arrive(200)
        state = initial_state(MIXED)
        self.assertEqual(advance(MIXED, state, 200), run.state())
        self.assertEqual([boat(MIXED, state, 3, number) for number in range(1, 20)], run.boats[3][:19])
        self.assertEqual([finisher(MIXED, state, "c", number) for number in range(1, 20)], run.finishers["c"][:19])


if __name__ == "__main__":
    unittest.main()
