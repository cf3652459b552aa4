"""Tests of fullboats.rates: points 9 and 10, and point 1 as far as it speaks of fractions."""

import random
import unittest
from fractions import Fraction
from math import gcd

from fullboats.counting import count_boats, count_finished
from fullboats.errors import InvalidCount, InvalidLengths, InvalidNetwork, InvalidRates
from fullboats.networks import ports
from fullboats.rates import (
    average_boats, check_rates, count_by_rates, make_rates, max_deviation, period, shares)
from fullboats.states import initial_state
from fullboats.tracing import advance
from plain import SMALL, PlainRun, chain, random_cases, random_network, random_state, reached_from_start, reached_ports

MOST = 10 ** 18
SMALL_RATES = ((1, 2), (3, 4), (1, 2))
BESIDE = ((2, "a"), (2, "b", "z"), ("c", "a"))
NONE = (0, 0, 0)
BAD_NETWORK = (("a",), ("b", 1))


def pair(number):
    """Return a fraction of Python's own as the document writes it."""
    number = Fraction(number)
    return (number.numerator, number.denominator)


def lengths_of(state):
    return tuple(map(len, state[1]))


def reached_lengths(network, state):
    return [len(state[1][station]) for station in sorted(reached_from_start(network))]


def chance(network, port, station):
    """Return how probable the port is for who is at a station, by following all ways."""
    found = Fraction(0)
    for place in network[station]:
        found += (place == port) if isinstance(place, str) else chance(network, port, place)
    return found / len(network[station])


class PeriodTest(unittest.TestCase):

    def test_example_of_the_document(self):
        self.assertEqual(period(SMALL), 6)

    def test_all_lengths_are_as_before_and_not_earlier(self):
        for network, state in random_cases(91, 80, most_stations=5, most_seats=4):
            arrivals = period(network)
            self.assertIs(type(arrivals), int)
            chooser = random.Random(arrivals)
            for start in (state, initial_state(network), random_state(chooser, network)):
                run = PlainRun(network, start)
                wanted = reached_lengths(network, start)
                with self.subTest(network=network, state=start):
                    for time in range(1, arrivals + 1):
                        run.arrive()
                        self.assertEqual(reached_lengths(network, run.state()) == wanted, time == arrivals)

    def test_single_seats_and_single_stations(self):
        self.assertEqual(period(chain(40)), 1)
        self.assertEqual(period((("a",),)), 1)
        self.assertEqual([period((("a",) * seats,)) for seats in range(1, 9)], list(range(1, 9)))

    def test_a_boat_that_fills_others_whole(self):
        self.assertEqual(period(((1, 1), ("a", "b"))), 2)
        self.assertEqual(period(((1, 1, 1, 1), ("a", "b", "c"))), 12)
        self.assertEqual(period(((1, 1, "a", "a"), ("a", "b"))), 4)

    def test_stations_that_cannot_be_reached_do_not_count(self):
        self.assertEqual(period((("a", "b"), ("a",) * 7)), 2)
        self.assertEqual(period(((2, "b"), (2,) * 7, ("a", "b"))), 4)

    def test_large_periods_of_forty_stations(self):
        rare = tuple(("p",) * 7 + (station + 1,) for station in range(39)) + (("p",) * 8,)
        self.assertEqual(period(rare), 8 ** 40)
        chooser = random.Random(92)
        for _ in range(10):
            network = random_network(chooser, 40, 8, fewest_stations=40)
            arrivals = period(network)
            state = random_state(chooser, network)
            with self.subTest(network=network, state=state):
                boats = self.boats_in_a_period(network, arrivals)
                # No common factor of the numbers of boats and arrivals could be taken away.
                self.assertEqual(gcd(arrivals, *boats), 1)

    def boats_in_a_period(self, network, arrivals):
        """Return the numbers of boats, having made sure that all reachable queues come back."""
        joined = [arrivals] + [0] * (len(network) - 1)
        boats = []
        for station, seats in enumerate(network):
            self.assertEqual(joined[station] % len(seats), 0)
            boats.append(joined[station] // len(seats))
            for place in seats:
                if not isinstance(place, str):
                    joined[place] += boats[-1]
        return boats

    def test_periods_of_forty_stations_by_advance(self):
        found = 0
        chooser = random.Random(93)
        while found < 5:
            network = random_network(chooser, 40, 3, fewest_stations=40)
            arrivals = period(network)
            if 10 ** 6 < arrivals <= MOST:
                found += 1
                state = random_state(chooser, network)
                with self.subTest(network=network, state=state):
                    lengths = reached_lengths(network, state)
                    self.assertEqual(reached_lengths(network, advance(network, state, arrivals)), lengths)
                    for factor in (2, 3):
                        if arrivals % factor == 0:
                            earlier = advance(network, state, arrivals // factor)
                            self.assertNotEqual(reached_lengths(network, earlier), lengths)

    def test_invalid_networks(self):
        for function in (period, shares, average_boats):
            with self.assertRaises(InvalidNetwork) as caught:
                function(BAD_NETWORK)
            self.assertEqual((caught.exception.station, caught.exception.seat), (1, 1))
            with self.assertRaises(InvalidNetwork):
                function(())


class SharesTest(unittest.TestCase):

    def test_examples_of_the_document(self):
        self.assertEqual(shares(SMALL), {"a": (1, 3), "b": (1, 2), "c": (1, 6)})
        self.assertEqual(average_boats(SMALL), (2, 1))

    def test_against_what_is_counted_in_a_period(self):
        for network, state in random_cases(94, 150):
            arrivals = period(network)
            with self.subTest(network=network, state=state):
                finished = count_finished(network, state, arrivals)
                wanted = {port: pair(Fraction(many, arrivals)) for port, many in finished.items()}
                self.assertEqual(shares(network), wanted)
                boats = count_boats(network, state, arrivals)
                rides = sum(many * len(seats) for many, seats in zip(boats, network))
                self.assertEqual(average_boats(network), pair(Fraction(rides, arrivals)))

    def test_only_ports_that_can_be_reached(self):
        self.assertEqual(shares(BESIDE), {"a": (3, 4), "c": (1, 4)})
        for network, _ in random_cases(95, 50):
            self.assertEqual(set(shares(network)), reached_ports(network))

    def test_shares_are_all_passengers_and_the_rates_of_station_0(self):
        for network, _ in random_cases(96, 30, most_stations=40, most_seats=8):
            found = shares(network)
            self.assertEqual(sum(Fraction(*share) for share in found.values()), 1)
            for port, share in found.items():
                self.assertEqual(share, make_rates(network, port)[0])

    def test_averages(self):
        self.assertEqual(average_boats((("a", "b"),)), (1, 1))
        self.assertEqual(average_boats((("a", "b"), ("c",))), (1, 1))
        self.assertEqual(average_boats(chain(40)), (40, 1))
        self.assertEqual(average_boats(((1, "a", "b"), ("c",))), (4, 3))
        rare = tuple(("p",) * 7 + (station + 1,) for station in range(39)) + (("p",) * 8,)
        self.assertEqual(average_boats(rare), pair(sum(Fraction(1, 8 ** depth) for depth in range(40))))

    def test_returned_dicts_may_be_modified(self):
        shares(SMALL)["a"] = (1, 1)
        shares(SMALL).clear()
        self.assertEqual(shares(SMALL), {"a": (1, 3), "b": (1, 2), "c": (1, 6)})
        self.assertIs(type(shares(SMALL)), dict)
        self.assertEqual({type(share) for share in shares(SMALL).values()}, {tuple})


class MakeRatesTest(unittest.TestCase):

    def test_example_of_the_document(self):
        self.assertEqual(make_rates(SMALL, "b"), SMALL_RATES)

    def test_against_all_ways(self):
        for network, _ in random_cases(101, 80):
            for port in "abcd":
                wanted = tuple(pair(chance(network, port, station)) for station in range(len(network)))
                with self.subTest(network=network, port=port):
                    self.assertEqual(make_rates(network, port), wanted)
                    self.assertIsNone(check_rates(network, port, wanted))

    def test_a_port_that_is_not_reached(self):
        self.assertEqual(make_rates(BESIDE, "z"), ((0, 1), (1, 3), (0, 1)))
        self.assertEqual(make_rates(BESIDE, "c"), ((1, 4), (1, 6), (1, 2)))

    def test_a_name_that_does_not_occur(self):
        for name in ("nowhere", "", "A", "abcdefghi"):
            self.assertEqual(make_rates(SMALL, name), ((0, 1),) * 3)
            self.assertIsNone(check_rates(SMALL, name, ((0, 1),) * 3))
            self.assertEqual(check_rates(SMALL, name, ((0, 1), (0, 1), (1, 2))), 1)
            self.assertEqual(max_deviation(SMALL, name), (0, 1))
            self.assertEqual(count_by_rates(SMALL, name, ((0, 1),) * 3, NONE, (1, 0, 1), 10), (0, 1))

    def test_certain_and_whole_rates(self):
        self.assertEqual(make_rates(chain(3), "end"), ((1, 1),) * 3)
        self.assertEqual(make_rates((("a", "a"), ("b",)), "a"), ((1, 1), (0, 1)))

    def test_forty_stations(self):
        rare = tuple(("p",) * 7 + (station + 1,) for station in range(39)) + (("p",) * 7 + ("q",),)
        self.assertEqual(make_rates(rare, "q"), tuple((1, 8 ** depth) for depth in range(40, 0, -1)))

    def test_kinds_of_values(self):
        self.assertEqual({type(rate) for rate in make_rates(SMALL, "b")}, {tuple})
        self.assertIs(type(make_rates(SMALL, "b")), tuple)


class CheckRatesTest(unittest.TestCase):

    def test_examples_of_the_document(self):
        self.assertEqual(check_rates(SMALL, "b", ((1, 2), (1, 2), (1, 2))), 0)
        with self.assertRaises(InvalidRates):
            check_rates(SMALL, "b", ((2, 4), (3, 4), (1, 2)))

    def test_rates_changed_at_each_station(self):
        for network, _ in random_cases(102, 60):
            for port in "abc":
                rates = make_rates(network, port)
                for station, rate in enumerate(rates):
                    changed = pair(Fraction(*rate) + Fraction(1, 7))
                    given = rates[:station] + (changed,) + rates[station + 1:]
                    # The first equation at fault is that of the first station with a seat to it, or its own.
                    asked = [at for at, seats in enumerate(network) if station in seats or at == station]
                    with self.subTest(network=network, port=port, rates=given):
                        self.assertEqual(check_rates(network, port, given), asked[0])

    def test_several_faults(self):
        self.assertEqual(check_rates(SMALL, "b", ((1, 2), (3, 4), (1, 3))), 1)
        self.assertEqual(check_rates(SMALL, "b", ((1, 2), (3, 4), (1, 2))), None)
        self.assertEqual(check_rates(SMALL, "b", ((5, 9), (5, 6), (2, 3))), 2)
        self.assertEqual(check_rates(SMALL, "b", ((1, 3), (1, 2), (0, 1))), 2)

    def test_the_rates_of_another_port(self):
        self.assertEqual(check_rates(SMALL, "a", SMALL_RATES), 0)
        self.assertEqual(check_rates(SMALL, "c", make_rates(SMALL, "b")), 1)

    def test_rates_that_no_chance_has(self):
        self.assertEqual(check_rates(SMALL, "b", ((-1, 2), (3, 4), (1, 2))), 0)
        self.assertEqual(check_rates(SMALL, "b", ((1, 2), (9, 4), (1, 2))), 0)

    def test_stations_that_cannot_be_reached_are_checked(self):
        self.assertEqual(check_rates(BESIDE, "z", ((0, 1), (0, 1), (0, 1))), 1)
        self.assertEqual(check_rates(BESIDE, "z", ((0, 1), (1, 3), (0, 1))), None)

    def test_what_are_not_so_many_fractions(self):
        half = (1, 2)
        wrong = [
            ((2, 4), (3, 4), half), (half, (6, 8), half), (half, (3, 4), (3, 6)), ((0, 2), half, half),
            ((1, 0), half, half), (half, (0, 0), half), (half, half, (-1, 0)), ((0, -1), half, half),
            ((-1, -2), half, half), ((1, -2), half, half), ((-2, 4), half, half),
            (), (half,), (half, half), (half, half, half, half), (half, (3, 4), half, (0, 1)),
            (half, half, (1,)), (half, half, (1, 2, 3)), (half, half, ()), ((1, 2, 1), half, half),
            (1, 2, 3), (half, half, 1), (half, half, None), (None, half, half), (half, "ab", half),
            (half, half, [1, 2]), [half, (3, 4), half], [], None, "abc", 5, {}, {0: half, 1: half, 2: half},
            (half, half, ("1", "2")), (half, half, (1, "2")), (half, half, (None, 1)), (half, half, (1, None)),
            (half, half, ((1, 2), 1)), (half, half, (True, 2)), (half, half, (0, True)), (half, half, (0.5, 1)),
            (half, half, (1, 2.0)),
        ]
        for rates in wrong:
            with self.subTest(rates=rates):
                with self.assertRaises(InvalidRates):
                    check_rates(SMALL, "b", rates)
                with self.assertRaises(InvalidRates):
                    count_by_rates(SMALL, "b", rates, NONE, NONE, 1)

    def test_the_form_comes_before_the_equations(self):
        with self.assertRaises(InvalidRates):
            check_rates(SMALL, "b", ((1, 3), (1, 3), (2, 4)))

    def test_zero_has_one_form(self):
        network = (("a", "b"),)
        self.assertIsNone(check_rates(network, "c", ((0, 1),)))
        for zero in ((0, 2), (0, 0), (0, -1)):
            with self.assertRaises(InvalidRates):
                check_rates(network, "c", (zero,))

    def test_invalid_networks_come_first(self):
        calls = (
            lambda network: make_rates(network, "b"),
            lambda network: check_rates(network, "b", None),
            lambda network: count_by_rates(network, "b", None, None, None, -1),
            lambda network: max_deviation(network, "b"),
        )
        for call in calls:
            with self.assertRaises(InvalidNetwork) as caught:
                call(BAD_NETWORK)
            self.assertEqual((caught.exception.station, caught.exception.seat), (1, 1))


class CountByRatesTest(unittest.TestCase):

    def test_examples_of_the_document(self):
        self.assertEqual(count_by_rates(SMALL, "b", SMALL_RATES, NONE, (1, 0, 1), 10), (4, 1))
        with self.assertRaises(InvalidLengths):
            count_by_rates(SMALL, "b", SMALL_RATES, NONE, (3, 0, 1), 10)

    def test_against_a_plain_run(self):
        for network, state in random_cases(103, 40):
            run = PlainRun(network, state)
            rates = {port: make_rates(network, port) for port in "abc"}
            with self.subTest(network=network, state=state):
                for count in range(30):
                    for port in "abc":
                        found = count_by_rates(
                            network, port, rates[port], lengths_of(state), lengths_of(run.state()), count)
                        self.assertEqual(found, (run.finished_counts().get(port, 0), 1))
                    run.arrive()

    def test_against_count_finished_up_to_the_most_arrivals(self):
        for network, state in random_cases(104, 12, most_stations=40, most_seats=8):
            for count in (1000, 987654321987654321, MOST):
                before, after = lengths_of(state), lengths_of(advance(network, state, count))
                finished = count_finished(network, state, count)
                with self.subTest(network=network, state=state, count=count):
                    for port in ports(network):
                        rates = make_rates(network, port)
                        found = count_by_rates(network, port, rates, before, after, count)
                        self.assertEqual(found, (finished.get(port, 0), 1))

    def test_what_no_arrivals_bring_about(self):
        self.assertEqual(count_by_rates(SMALL, "b", SMALL_RATES, NONE, NONE, 1), (1, 2))
        self.assertEqual(count_by_rates(SMALL, "b", SMALL_RATES, NONE, (2, 1, 1), 0), (-9, 4))
        self.assertEqual(count_by_rates(SMALL, "b", SMALL_RATES, (2, 1, 1), NONE, 0), (9, 4))
        self.assertEqual(count_by_rates(SMALL, "b", SMALL_RATES, NONE, NONE, 0), (0, 1))

    def test_rates_that_are_not_valid(self):
        for rates in (((1, 2), (1, 2), (1, 2)), ((1, 2), (3, 4), (1, 3)), ((0, 1), (0, 1), (0, 1))):
            with self.subTest(rates=rates), self.assertRaises(InvalidRates):
                count_by_rates(SMALL, "b", rates, NONE, NONE, 10)

    def test_lengths_that_are_not_possible(self):
        wrong = [
            (3, 0, 0), (0, 2, 0), (0, 0, 2), (-1, 0, 0), (0, -1, 0), (0, 0, -1), (), (0, 0), (0, 0, 0, 0),
            [0, 0, 0], None, 0, "000", (0, 0, None), (0, 0, "1"), (0, 0, (0,)), (0, 0, True), (0, 0, 0.0), {},
        ]
        for lengths in wrong:
            for before, after in ((lengths, NONE), (NONE, lengths), (lengths, lengths)):
                with self.subTest(before=before, after=after), self.assertRaises(InvalidLengths):
                    count_by_rates(SMALL, "b", SMALL_RATES, before, after, 10)
        for lengths in ((2, 1, 1), NONE):
            count_by_rates(SMALL, "b", SMALL_RATES, lengths, lengths, 10)

    def test_the_least_and_the_most_count(self):
        for count in (-1, MOST + 1):
            with self.subTest(count=count), self.assertRaises(InvalidCount):
                count_by_rates(SMALL, "b", SMALL_RATES, NONE, NONE, count)
        self.assertEqual(count_by_rates(SMALL, "b", SMALL_RATES, NONE, NONE, MOST), (MOST // 2, 1))

    def test_order_of_the_errors(self):
        wrong_rates = (((1, 2), (1, 2), (1, 2)), ((2, 4), (3, 4), (1, 2)), ())
        for rates in wrong_rates:
            with self.subTest(rates=rates), self.assertRaises(InvalidRates):
                count_by_rates(SMALL, "b", rates, (9, 9, 9), NONE, -1)
        for before, after in (((9, 9, 9), NONE), (NONE, (9, 9, 9))):
            with self.assertRaises(InvalidLengths):
                count_by_rates(SMALL, "b", SMALL_RATES, before, after, -1)


class MaxDeviationTest(unittest.TestCase):

    def test_example_of_the_document(self):
        self.assertEqual(max_deviation(SMALL, "b"), (9, 4))

    def test_against_all_ways(self):
        for network, _ in random_cases(105, 40):
            for port in "abcd":
                wanted = sum(chance(network, port, station) * (len(seats) - 1) for station, seats in enumerate(network))
                self.assertEqual(max_deviation(network, port), pair(wanted))

    def test_stations_that_cannot_be_reached_count_too(self):
        self.assertEqual(max_deviation(BESIDE, "z"), (2, 3))
        self.assertEqual(max_deviation(BESIDE, "c"), pair(Fraction(1, 4) + Fraction(2, 6) + Fraction(1, 2)))

    def test_single_seats(self):
        self.assertEqual(max_deviation(chain(40), "end"), (0, 1))

    def test_no_count_differs_by_more(self):
        for network, state in random_cases(106, 40):
            run = PlainRun(network, state)
            bounds = {port: Fraction(*max_deviation(network, port)) for port in "abc"}
            rates = {port: Fraction(*make_rates(network, port)[0]) for port in "abc"}
            for count in range(40):
                for port in "abc":
                    deviation = run.finished_counts().get(port, 0) - count * rates[port]
                    self.assertLessEqual(abs(deviation), bounds[port])
                run.arrive()


class SharedTest(unittest.TestCase):
    """What holds for all functions of the file."""

    def test_arguments_stay_and_errors_change_nothing(self):
        network = ((1, "a", 1), (2, "b"), ("c", "b"))
        for _ in range(2):
            self.assertEqual(period(network), 6)
            self.assertEqual(make_rates(network, "b"), SMALL_RATES)
            with self.assertRaises(InvalidRates):
                check_rates(network, "b", ())
            with self.assertRaises(InvalidCount):
                count_by_rates(network, "b", SMALL_RATES, NONE, NONE, -1)
        self.assertEqual(network, SMALL)


if __name__ == "__main__":
    unittest.main()
