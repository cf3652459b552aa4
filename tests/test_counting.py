"""Tests of fullboats.counting: point 5, and point 1 as far as it speaks of counts."""

import random
import unittest

from fullboats.counting import count_boats, count_finished
from fullboats.errors import InvalidCount, InvalidNetwork, InvalidState
from fullboats.rates import period
from fullboats.states import initial_state
from fullboats.tracing import advance
from plain import EMPTY, SMALL, PlainRun, chain, random_cases, random_network, random_state

MOST = 10 ** 18


class CountTest(unittest.TestCase):

    def test_examples_of_the_document(self):
        self.assertEqual(count_boats(SMALL, EMPTY, 7), [2, 2, 1])
        self.assertEqual(count_finished(SMALL, EMPTY, 7), {"a": 2, "b": 3, "c": 1})

    def test_against_a_plain_run(self):
        for network, state in random_cases(51, 150):
            run = PlainRun(network, state)
            with self.subTest(network=network, state=state):
                for count in range(61):
                    self.assertEqual(count_boats(network, state, count), run.boat_counts())
                    self.assertEqual(count_finished(network, state, count), run.finished_counts())
                    run.arrive()

    def test_big_networks_against_a_plain_run(self):
        for network, state in random_cases(52, 20, most_stations=40, most_seats=8):
            run = PlainRun(network, state)
            run.arrive(700)
            with self.subTest(network=network, state=state):
                self.assertEqual(count_boats(network, state, 700), run.boat_counts())
                self.assertEqual(count_finished(network, state, 700), run.finished_counts())

    def test_no_arrivals(self):
        state = (9, ((1, 2), (5,), (3,)))
        self.assertEqual(count_boats(SMALL, state, 0), [0, 0, 0])
        self.assertEqual(count_finished(SMALL, state, 0), {})

    def test_one_arrival(self):
        self.assertEqual(count_boats(SMALL, EMPTY, 1), [0, 0, 0])
        self.assertEqual(count_finished(SMALL, EMPTY, 1), {})
        state = (9, ((1, 2), (5,), (3,)))
        self.assertEqual(count_boats(SMALL, state, 1), [1, 1, 1])
        self.assertEqual(count_finished(SMALL, state, 1), {"c": 1, "b": 2, "a": 1})

    def test_a_boat_that_fills_another_one_several_times(self):
        network = ((1,) * 8, (2, "a"), (3,), ("b", "c"))
        state = (9, ((1, 2, 3, 4, 5, 6, 7), (8,), (), ()))
        self.assertEqual(count_boats(network, state, 1), [1, 4, 4, 2])
        self.assertEqual(count_finished(network, state, 1), {"a": 4, "b": 2, "c": 2})

    def test_most_arrivals(self):
        self.assertEqual(count_boats(SMALL, EMPTY, MOST), [MOST // 3, MOST // 3, MOST // 6])
        self.assertEqual(
            count_finished(SMALL, EMPTY, MOST), {"a": MOST // 3, "b": MOST // 3 + MOST // 6, "c": MOST // 6})
        self.assertEqual(count_boats((("a",),), (1, ((),)), MOST), [MOST])

    def test_far_counts_by_the_period(self):
        for network, state in random_cases(53, 60, most_stations=6):
            arrivals = period(network)
            run = PlainRun(network, state)
            run.arrive(MOST % arrivals)
            rest = (run.boat_counts(), run.finished_counts())
            run.arrive(arrivals)
            periods = MOST // arrivals
            with self.subTest(network=network, state=state):
                wanted = [low + periods * (high - low) for low, high in zip(rest[0], run.boat_counts())]
                self.assertEqual(count_boats(network, state, MOST), wanted)
                for port, many in count_finished(network, state, MOST).items():
                    low, high = rest[1].get(port, 0), run.finished_counts()[port]
                    self.assertEqual(many, low + periods * (high - low))

    def test_forty_stations_and_two_parts(self):
        chooser = random.Random(54)
        for _ in range(8):
            network = random_network(chooser, 40, 8, fewest_stations=40)
            state = random_state(chooser, network)
            parts = (chooser.randrange(MOST), chooser.randrange(1000))
            between = advance(network, state, parts[0])
            with self.subTest(network=network, state=state, parts=parts):
                sums = [sum(many) for many in zip(*[
                    count_boats(network, state, parts[0]), count_boats(network, between, parts[1])])]
                self.assertEqual(count_boats(network, state, sum(parts)), sums)
                first = count_finished(network, state, parts[0])
                second = count_finished(network, between, parts[1])
                both = {port: first.get(port, 0) + second.get(port, 0) for port in {**first, **second}}
                self.assertEqual(count_finished(network, state, sum(parts)), both)

    def test_everybody_waits_or_has_finished(self):
        chooser = random.Random(55)
        for _ in range(5):
            network = random_network(chooser, 40, 8, fewest_stations=40)
            state = random_state(chooser, network)
            after = advance(network, state, MOST)
            waiting = sum(map(len, after[1])) - sum(map(len, state[1]))
            self.assertEqual(sum(count_finished(network, state, MOST).values()), MOST - waiting)

    def test_stations_that_cannot_be_reached(self):
        network = ((2,), (2, "b", "c"), ("a", "d"))
        state = (5, ((), (4, 1), (3,)))
        self.assertEqual(count_boats(network, state, MOST), [MOST, 0, MOST // 2])
        self.assertEqual(count_finished(network, state, 1), {"a": 1, "d": 1})

    def test_only_ports_that_somebody_reaches(self):
        network = (("a", 1), ("b", 2), ("c", "d"))
        found = [count_finished(network, initial_state(network), count) for count in range(9)]
        self.assertEqual(found[:4], [{}, {}, {"a": 1}, {"a": 1}])
        self.assertEqual(found[4:8], [{"a": 2, "b": 1}] * 2 + [{"a": 3, "b": 1}] * 2)
        self.assertEqual(found[8:], [{"a": 4, "b": 2, "c": 1, "d": 1}])

    def test_far_stations_of_a_long_network(self):
        network = tuple(("p",) * 7 + (station + 1,) for station in range(39)) + (("p",) * 7 + ("q",),)
        state = initial_state(network)
        self.assertEqual(count_boats(network, state, MOST), [MOST // 8 ** depth for depth in range(1, 41)])
        self.assertNotIn("q", count_finished(network, state, MOST))
        self.assertEqual(count_finished(chain(40), initial_state(chain(40)), MOST), {"end": MOST})

    def test_the_least_and_the_most_count(self):
        for function in (count_boats, count_finished):
            for count in (-1, -MOST, MOST + 1, 2 * MOST):
                with self.subTest(function=function.__name__, count=count), self.assertRaises(InvalidCount):
                    function(SMALL, EMPTY, count)
            for count in (0, 1, MOST):
                function(SMALL, EMPTY, count)

    def test_order_of_the_errors(self):
        for function in (count_boats, count_finished):
            with self.assertRaises(InvalidNetwork) as caught:
                function((("a",), ("b", 1)), (0, ((), ())), -1)
            self.assertEqual((caught.exception.station, caught.exception.seat), (1, 1))
            with self.assertRaises(InvalidState):
                function(SMALL, (0, ((), (), ())), -1)
            with self.assertRaises(InvalidState):
                function(SMALL, (3, ((1, 3), (), ())), MOST + 1)

    def test_returned_values_may_be_modified(self):
        count_boats(SMALL, EMPTY, 7)[0] = 100
        count_finished(SMALL, EMPTY, 7)["a"] = 100
        count_finished(SMALL, EMPTY, 7).clear()
        self.assertEqual(count_boats(SMALL, EMPTY, 7), [2, 2, 1])
        self.assertEqual(count_finished(SMALL, EMPTY, 7), {"a": 2, "b": 3, "c": 1})

    def test_arguments_stay_and_errors_change_nothing(self):
        network, state = ((1, "a", 1), (2, "b"), ("c", "b")), (1, ((), (), ()))
        for function in (count_boats, count_finished):
            with self.assertRaises(InvalidCount):
                function(network, state, -1)
            function(network, state, 10)
        self.assertEqual((network, state), (SMALL, EMPTY))
        self.assertEqual(count_boats(network, state, 7), [2, 2, 1])

    def test_kinds_of_values(self):
        self.assertIs(type(count_boats(SMALL, EMPTY, 5)), list)
        self.assertIs(type(count_finished(SMALL, EMPTY, 5)), dict)


if __name__ == "__main__":
    unittest.main()
