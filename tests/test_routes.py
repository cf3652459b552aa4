"""Tests of fullboats.routes: points 7 and 8, and point 1 as far as it speaks of these."""

import random
import unittest

from fullboats.errors import InvalidCount, InvalidNetwork, InvalidState, UnknownPassenger
from fullboats.routes import companions, locate, route, shared_boats
from fullboats.states import initial_state
from fullboats.tracing import advance, boat, finisher
from plain import EMPTY, SMALL, PlainRun, chain, random_cases, random_network, random_state, reached_from_start

MOST = 10 ** 18
# Nobody reaches station 1.
BESIDE = ((2, "a"), (2, "b", "z"), ("c", "a"))
BESIDE_STATE = (6, ((), (5, 3), (2,)))


def known_passengers(run):
    """Return all passengers whose journey a plain run knows whole."""
    return sorted(run.ends)


def plain_companions(run, passenger):
    found = {}
    for station, number, _, _ in run.legs[passenger]:
        for other in run.boats[station][number - 1][0]:
            if other != passenger:
                found[other] = found.get(other, 0) + 1
    return sorted(found.items())


def plain_shared_boats(run, one, other):
    """Go through all boats in the order in which they departed, instead of a route."""
    legs = [{leg[:2] for leg in run.legs[passenger]} for passenger in (one, other)]
    return [leg[:2] for leg in run.legs[one] if leg[:2] in legs[1]]


class RouteTest(unittest.TestCase):

    def test_example_of_the_document(self):
        self.assertEqual(route(SMALL, EMPTY, 4), ([(0, 2, 0, 6), (1, 2, 0, 6), (2, 1, 1, 6)], "b", 2))
        with self.assertRaises(UnknownPassenger):
            route(SMALL, (3, ((2,), (), ())), 1)

    def test_against_a_plain_run(self):
        for network, state in random_cases(71, 120):
            run = PlainRun(network, state)
            run.arrive(60)
            with self.subTest(network=network, state=state):
                for passenger in known_passengers(run):
                    wanted = (run.legs[passenger],) + run.ends[passenger][:2]
                    self.assertEqual(route(network, state, passenger), wanted)

    def test_passengers_who_waited_at_the_beginning(self):
        state = (9, ((7, 3), (5,), (8,)))
        self.assertEqual(route(SMALL, state, 7), ([(0, 1, 0, 1), (1, 1, 1, 1)], "b", 2))
        self.assertEqual(route(SMALL, state, 5), ([(1, 1, 0, 1), (2, 1, 1, 1)], "b", 1))
        self.assertEqual(route(SMALL, state, 8), ([(2, 1, 0, 1)], "c", 1))
        self.assertEqual(route(SMALL, state, 9), ([(0, 1, 2, 1), (1, 2, 0, 4), (2, 2, 0, 7)], "c", 2))

    def test_a_passenger_who_waits_where_nobody_gets(self):
        for passenger in (5, 3):
            self.assertEqual(route(BESIDE, BESIDE_STATE, passenger), ([], None, None))
        self.assertEqual(route(BESIDE, BESIDE_STATE, 2), ([(2, 1, 0, 2)], "c", 1))

    def test_the_same_boat_fills_another_one_twice(self):
        network = ((1, 1, 1, 1), ("a", "b"))
        state = initial_state(network)
        found = [route(network, state, passenger) for passenger in (1, 2, 3, 4)]
        self.assertEqual(found, [
            ([(0, 1, 0, 4), (1, 1, 0, 4)], "a", 1), ([(0, 1, 1, 4), (1, 1, 1, 4)], "b", 1),
            ([(0, 1, 2, 4), (1, 2, 0, 4)], "a", 2), ([(0, 1, 3, 4), (1, 2, 1, 4)], "b", 2)])

    def test_single_seats(self):
        network = chain(40)
        legs = [(station, 5, 0, 5) for station in range(40)]
        self.assertEqual(route(network, initial_state(network), 5), (legs, "end", 5))

    def test_the_first_and_the_last_passenger(self):
        state = (9, ((7, 3), (5,), (8,)))
        for function in (route, companions):
            for passenger in (0, -1, 1, 2, 4, 6, 9 + MOST + 1, 9 + 2 * MOST):
                with self.subTest(function=function.__name__, passenger=passenger):
                    with self.assertRaises(UnknownPassenger):
                        function(SMALL, state, passenger)
            for passenger in (9, 10, 9 + MOST - 1, 9 + MOST):
                function(SMALL, state, passenger)

    def test_the_last_passenger_that_may_be_asked_for(self):
        self.assertEqual(route((("a",),), (5, ((),)), MOST + 5), ([(0, MOST + 1, 0, MOST + 1)], "a", MOST + 1))
        # Periods of six arrivals, in which the passengers from 1 to 6 are repeated; two of each three share
        # a boat of station 1, and half of these one of station 2.
        last = MOST + 1
        self.assertEqual(last % 6, 5)
        boats = (last - 5) // 3
        self.assertEqual(route(SMALL, EMPTY, last), ([(0, boats + 2, 1, last + 1)], "a", boats + 2))
        self.assertEqual(
            route(SMALL, EMPTY, last - 1),
            ([(0, boats + 2, 0, last + 1), (1, boats + 2, 0, last + 1), (2, boats // 2 + 1, 1, last + 1)],
             "b", boats // 2 + boats + 2))

    def test_who_has_finished_already(self):
        state = advance(SMALL, EMPTY, 10)
        self.assertEqual(state, (11, ((10,), (), (7,))))
        for passenger in (1, 6, 8, 9):
            for call in (lambda: route(SMALL, state, passenger), lambda: locate(SMALL, state, passenger, 0)):
                with self.assertRaises(UnknownPassenger):
                    call()
        self.assertEqual(route(SMALL, state, 7), ([(2, 1, 0, 2)], "c", 1))

    def test_far_routes_agree_with_boats_and_finishers(self):
        chooser = random.Random(72)
        for _ in range(10):
            network = random_network(chooser, 40, 8, fewest_stations=40)
            state = random_state(chooser, network)
            passenger = state[0] + chooser.randrange(MOST)
            legs, port, number = route(network, state, passenger)
            with self.subTest(network=network, state=state, passenger=passenger):
                self.assertEqual(legs[0][0], 0)
                self.assertGreaterEqual(legs[0][3], passenger - state[0] + 1)
                for at, (station, boat_number, seat, time) in enumerate(legs):
                    passengers, departure = boat(network, state, station, boat_number)
                    self.assertEqual((passengers[seat], departure), (passenger, time))
                    place = network[station][seat]
                    self.assertEqual(place, legs[at + 1][0] if at + 1 < len(legs) else port)
                self.assertEqual([leg[3] for leg in legs], sorted(leg[3] for leg in legs))
                self.assertEqual(finisher(network, state, port, number), (passenger, legs[-1][3]))

    def test_a_journey_of_many_years(self):
        network = tuple(("p",) * 7 + (station + 1,) for station in range(39)) + (("p",) * 7 + ("q",),)
        state = initial_state(network)
        legs, port, number = route(network, state, 8 ** 18)
        self.assertEqual(legs[:18], [(depth, 8 ** (17 - depth), 7, 8 ** 18) for depth in range(18)])
        self.assertEqual((legs[18:], port), ([(18, 1, 0, 8 ** 19)], "p"))
        self.assertEqual(finisher(network, state, port, number), (8 ** 18, 8 ** 19))

    def test_kinds_of_values(self):
        found = route(SMALL, EMPTY, 4)
        self.assertEqual([type(found), type(found[0])], [tuple, list])
        self.assertEqual({type(leg) for leg in found[0]}, {tuple})

    def test_returned_lists_may_be_modified(self):
        wanted = ([(0, 2, 0, 6), (1, 2, 0, 6), (2, 1, 1, 6)], "b", 2)
        route(SMALL, EMPTY, 4)[0].clear()
        self.assertEqual(route(SMALL, EMPTY, 4), wanted)
        route(BESIDE, BESIDE_STATE, 5)[0].append(1)
        self.assertEqual(route(BESIDE, BESIDE_STATE, 5), ([], None, None))


class LocateTest(unittest.TestCase):

    def test_examples_of_the_document(self):
        self.assertEqual(locate(SMALL, EMPTY, 1, 5), ("queue", 2, 0))
        self.assertEqual(locate(SMALL, EMPTY, 6, 5), ("outside",))

    def test_against_a_plain_run(self):
        for network, state in random_cases(73, 60):
            run = PlainRun(network, state)
            waiting = [passenger for queue in state[1] for passenger in queue]
            with self.subTest(network=network, state=state):
                for count in range(25):
                    for passenger in waiting + list(range(state[0], state[0] + 27)):
                        self.assertEqual(locate(network, state, passenger, count), run.place_of(passenger))
                    run.arrive()

    def test_just_before_at_and_behind_each_leg(self):
        for network, state in random_cases(74, 40):
            run = PlainRun(network, state)
            run.arrive(60)
            for passenger in known_passengers(run)[::5]:
                legs, port, number = route(network, state, passenger)
                with self.subTest(network=network, state=state, passenger=passenger):
                    for at, (station, _, seat, time) in enumerate(legs):
                        before = legs[at - 1][3] if at > 0 else max(0, passenger - state[0] + 1)
                        if before < time:
                            self.assertEqual(locate(network, state, passenger, time - 1), ("queue", station, seat))
                            self.assertEqual(locate(network, state, passenger, before), ("queue", station, seat))
                        later = [leg for leg in legs if leg[3] > time]
                        wanted = ("queue", later[0][0], later[0][2]) if later else ("port", port, number)
                        self.assertEqual(locate(network, state, passenger, time), wanted)
                    self.assertEqual(locate(network, state, passenger, legs[-1][3] + 1), ("port", port, number))
                    self.assertEqual(locate(network, state, passenger, MOST), ("port", port, number))

    def test_at_the_passengers_own_arrival(self):
        self.assertEqual(locate(SMALL, EMPTY, 1, 0), ("outside",))
        self.assertEqual(locate(SMALL, EMPTY, 1, 1), ("queue", 0, 0))
        self.assertEqual(locate(SMALL, EMPTY, 2, 1), ("outside",))
        self.assertEqual(locate(SMALL, EMPTY, 2, 2), ("queue", 0, 1))
        self.assertEqual(locate(SMALL, EMPTY, 3, 2), ("outside",))
        self.assertEqual(locate(SMALL, EMPTY, 3, 3), ("port", "b", 1))
        self.assertEqual(locate(SMALL, (7, ((), (), ())), 7, 0), ("outside",))
        self.assertEqual(locate((("a",),), (7, ((),)), 7, 1), ("port", "a", 1))

    def test_at_the_beginning(self):
        state = (9, ((7, 3), (5,), (8,)))
        found = [locate(SMALL, state, passenger, 0) for passenger in (7, 3, 5, 8, 9)]
        self.assertEqual(
            found, [("queue", 0, 0), ("queue", 0, 1), ("queue", 1, 0), ("queue", 2, 0), ("outside",)])

    def test_after_the_most_arrivals(self):
        self.assertEqual(locate(SMALL, EMPTY, MOST, MOST), ("queue", 0, 0))
        self.assertEqual(locate(SMALL, EMPTY, MOST + 1, MOST), ("outside",))
        self.assertEqual(locate(SMALL, EMPTY, MOST - 1, MOST), ("port", "b", MOST // 6 + MOST // 3))
        self.assertEqual(locate(SMALL, EMPTY, 1, MOST), ("port", "c", 1))

    def test_a_passenger_who_waits_where_nobody_gets(self):
        for count in (0, 1, 1000, MOST):
            self.assertEqual(locate(BESIDE, BESIDE_STATE, 5, count), ("queue", 1, 0))
            self.assertEqual(locate(BESIDE, BESIDE_STATE, 3, count), ("queue", 1, 1))

    def test_far_places_agree_with_advance(self):
        chooser = random.Random(75)
        for _ in range(5):
            network = random_network(chooser, 40, 8, fewest_stations=40)
            state = random_state(chooser, network)
            count = chooser.randrange(MOST)
            after = advance(network, state, count)
            with self.subTest(network=network, state=state, count=count):
                for station, queue in enumerate(after[1]):
                    for position, passenger in enumerate(queue):
                        self.assertEqual(locate(network, state, passenger, count), ("queue", station, position))

    def test_the_least_and_the_most_count(self):
        for count in (-1, MOST + 1):
            for passenger in (1, 5, 10 ** 17):
                with self.subTest(count=count, passenger=passenger), self.assertRaises(InvalidCount):
                    locate(SMALL, EMPTY, passenger, count)
            with self.assertRaises(InvalidCount):
                locate(BESIDE, BESIDE_STATE, 5, count)

    def test_unknown_passengers_come_before_the_count(self):
        for count in (0, 5, MOST, -1, MOST + 1):
            for passenger in (0, -1, 1, 4, MOST + 7):
                with self.subTest(count=count, passenger=passenger), self.assertRaises(UnknownPassenger):
                    locate(BESIDE, BESIDE_STATE, passenger, count)
        self.assertEqual(locate(BESIDE, BESIDE_STATE, MOST + 6, MOST), ("outside",))


class CompanionsTest(unittest.TestCase):

    def test_example_of_the_document(self):
        self.assertEqual(companions(SMALL, EMPTY, 4), [(1, 1), (5, 1), (6, 2)])

    def test_against_a_plain_run(self):
        for network, state in random_cases(76, 80):
            run = PlainRun(network, state)
            run.arrive(50)
            with self.subTest(network=network, state=state):
                for passenger in known_passengers(run):
                    self.assertEqual(companions(network, state, passenger), plain_companions(run, passenger))

    def test_nobody(self):
        self.assertEqual(companions(chain(40), initial_state(chain(40)), 3), [])
        for passenger in (3, 5):
            self.assertEqual(companions(BESIDE, BESIDE_STATE, passenger), [])

    def test_passengers_who_waited_at_the_beginning(self):
        self.assertEqual(companions(SMALL, (9, ((7, 3), (5,), (8,))), 7), [(3, 1), (5, 1), (9, 1)])

    def test_ascending_without_the_passenger(self):
        network = ((1, "a", 1, 1), (2, 2), ("b", "c", "d"))
        state = (50, ((40, 7, 21), (3,), (33,)))
        run = PlainRun(network, state)
        run.arrive(100)
        for passenger in (40, 7, 21, 3, 33, 50, 51):
            found = companions(network, state, passenger)
            self.assertEqual(found, plain_companions(run, passenger))
            self.assertEqual([other for other, _ in found], sorted({other for other, _ in found} - {passenger}))

    def test_far_companions(self):
        chooser = random.Random(77)
        for _ in range(5):
            network = random_network(chooser, 40, 8, fewest_stations=40)
            state = random_state(chooser, network)
            passenger = state[0] + chooser.randrange(MOST // 2)
            with self.subTest(network=network, state=state, passenger=passenger):
                for other, many in companions(network, state, passenger):
                    self.assertEqual(len(shared_boats(network, state, passenger, other)), many)
                    self.assertEqual(dict(companions(network, state, other))[passenger], many)

    def test_unknown_passengers(self):
        for passenger in (0, 1, 4, MOST + 7):
            with self.subTest(passenger=passenger), self.assertRaises(UnknownPassenger):
                companions(BESIDE, BESIDE_STATE, passenger)

    def test_returned_lists_may_be_modified(self):
        companions(SMALL, EMPTY, 4).clear()
        self.assertEqual(companions(SMALL, EMPTY, 4), [(1, 1), (5, 1), (6, 2)])
        self.assertEqual({type(entry) for entry in companions(SMALL, EMPTY, 4)}, {tuple})


class SharedBoatsTest(unittest.TestCase):

    def test_example_of_the_document(self):
        self.assertEqual(shared_boats(SMALL, EMPTY, 4, 6), [(0, 2), (1, 2)])

    def test_against_a_plain_run(self):
        for network, state in random_cases(78, 60):
            run = PlainRun(network, state)
            run.arrive(40)
            known = known_passengers(run)[:12]
            with self.subTest(network=network, state=state):
                for one in known:
                    for other in known:
                        self.assertEqual(
                            shared_boats(network, state, one, other), plain_shared_boats(run, one, other))

    def test_a_passenger_and_the_same_one(self):
        self.assertEqual(shared_boats(SMALL, EMPTY, 4, 4), [(0, 2), (1, 2), (2, 1)])
        self.assertEqual(shared_boats(BESIDE, BESIDE_STATE, 5, 5), [])
        network = chain(40)
        self.assertEqual(shared_boats(network, initial_state(network), 6, 6), [(at, 6) for at in range(40)])

    def test_passengers_who_share_none(self):
        self.assertEqual(shared_boats(SMALL, EMPTY, 2, 5), [])
        self.assertEqual(shared_boats(SMALL, EMPTY, 1, MOST), [])
        self.assertEqual(shared_boats(BESIDE, BESIDE_STATE, 5, 3), [])
        self.assertEqual(shared_boats(BESIDE, BESIDE_STATE, 5, 6), [])
        self.assertEqual(shared_boats(BESIDE, BESIDE_STATE, 6, 5), [])

    def test_they_part_and_meet_again(self):
        network = ((1, 2), (3,), (3,), ("a", "b"))
        self.assertEqual(shared_boats(network, initial_state(network), 1, 2), [(0, 1), (3, 1)])
        self.assertEqual(shared_boats(network, initial_state(network), 2, 1), [(0, 1), (3, 1)])

    def test_the_order_of_departure_is_not_that_of_the_numbers(self):
        network = ((1, 2), ("a", 3), (1, 3), ("b", "c"))
        for network, state in random_cases(79, 40):
            run = PlainRun(network, state)
            run.arrive(40)
            # All boats of the run, in the order in which they departed.
            seen = sorted(((time, station), number) for station, boats in run.boats.items()
                          for number, (_, time) in enumerate(boats, start=1))
            times = {(station, number): time for (time, station), number in seen}
            for passenger in known_passengers(run):
                found = shared_boats(network, state, passenger, passenger)
                self.assertEqual([times[leg] for leg in found], sorted(times[leg] for leg in found))

    def test_unknown_passengers(self):
        for one, other in ((0, 5), (5, 0), (1, 2), (2, 1), (MOST + 7, 6), (6, MOST + 7), (0, 0)):
            with self.subTest(one=one, other=other), self.assertRaises(UnknownPassenger):
                shared_boats(BESIDE, BESIDE_STATE, one, other)
        self.assertEqual(shared_boats(BESIDE, BESIDE_STATE, MOST + 6, 6), [])

    def test_returned_lists_may_be_modified(self):
        shared_boats(SMALL, EMPTY, 4, 6).clear()
        self.assertEqual(shared_boats(SMALL, EMPTY, 4, 6), [(0, 2), (1, 2)])
        self.assertEqual({type(entry) for entry in shared_boats(SMALL, EMPTY, 4, 6)}, {tuple})


class SharedTest(unittest.TestCase):
    """What holds for all functions of the file."""

    def test_order_of_the_errors(self):
        calls = (
            lambda network, state: route(network, state, -1),
            lambda network, state: locate(network, state, -1, -1),
            lambda network, state: companions(network, state, -1),
            lambda network, state: shared_boats(network, state, -1, -1),
        )
        for call in calls:
            with self.assertRaises(InvalidNetwork) as caught:
                call((("a",), ("b", 1)), (0, ((), ())))
            self.assertEqual((caught.exception.station, caught.exception.seat), (1, 1))
            for state in ((0, ((), (), ())), (3, ((1, 3), (), ())), (1, ())):
                with self.assertRaises(InvalidState):
                    call(SMALL, state)

    def test_arguments_stay_and_errors_change_nothing(self):
        network, state = ((1, "a", 1), (2, "b"), ("c", "b")), (1, ((), (), ()))
        for _ in range(2):
            self.assertEqual(route(network, state, 4)[1:], ("b", 2))
            self.assertEqual(locate(network, state, 1, 5), ("queue", 2, 0))
            self.assertEqual(companions(network, state, 4), [(1, 1), (5, 1), (6, 2)])
            for call in (route, companions):
                with self.assertRaises(UnknownPassenger):
                    call(network, state, 0)
        self.assertEqual((network, state), (SMALL, EMPTY))

    def test_unreached_stations_of_random_networks(self):
        for network, state in random_cases(80, 60):
            for station, queue in enumerate(state[1]):
                for position, passenger in enumerate(queue):
                    if station not in reached_from_start(network):
                        self.assertEqual(route(network, state, passenger), ([], None, None))
                        self.assertEqual(locate(network, state, passenger, 77), ("queue", station, position))
                        self.assertEqual(companions(network, state, passenger), [])
                        self.assertEqual(shared_boats(network, state, passenger, passenger), [])


if __name__ == "__main__":
    unittest.main()
