"""Tests of fullboats.observers: point 11, and point 1 as far as it speaks of observers."""

import itertools
import random
import unittest

from fullboats.errors import (
    Contradiction, FerryError, InvalidCount, InvalidNetwork, InvalidPassengers, TooManyCandidates, UnknownPort,
    UnknownStation)
from fullboats.observers import Observer
from fullboats.tracing import boat, finisher
from plain import SMALL, PlainRun, chain, random_network, reached_from_start, reached_ports

MOST_NUMBER = 10 ** 6
MOST_TIME = 10 ** 18
# Nobody reaches station 1, and so neither port b nor port z.
BESIDE = ((2, "a"), (2, "b", "z"), ("c", "a"))
ALL_SMALL = [(first, second, third) for first in range(3) for second in range(2) for third in range(2)]


def all_lengths(network):
    return list(itertools.product(*[range(len(seats)) for seats in network]))


def plain_runs(network, arrivals):
    """Return a plain run for each candidate, in which all who waited at the beginning are 0."""
    runs = {}
    for lengths in all_lengths(network):
        runs[lengths] = PlainRun(network, (1, [[0] * length for length in lengths]))
        runs[lengths].arrive(arrivals)
    return runs


def numbered_state(lengths):
    """Return (state, number of those who wait) for queue lengths, with different passengers."""
    waiting, queues = 0, []
    for length in lengths:
        queues.append(tuple(range(waiting + 1, waiting + length + 1)))
        waiting += length
    return (waiting + 1, tuple(queues)), waiting


def small_networks(seed, many):
    chooser = random.Random(seed)
    found = []
    while len(found) < many:
        network = random_network(chooser, 5)
        if len(all_lengths(network)) <= 100:
            found.append(network)
    return found


class CandidatesTest(unittest.TestCase):

    def test_all_lengths_at_first(self):
        self.assertEqual(Observer(SMALL).candidates(), ALL_SMALL)
        self.assertEqual(Observer((("a",),)).candidates(), [(0,)])
        self.assertEqual(Observer(chain(40)).candidates(), [(0,) * 40])
        for network in small_networks(111, 20):
            self.assertEqual(Observer(network).candidates(), all_lengths(network))

    def test_stations_that_cannot_be_reached_have_lengths_too(self):
        self.assertEqual(Observer(BESIDE).candidates(), all_lengths(BESIDE))
        self.assertEqual(len(all_lengths(BESIDE)), 12)

    def test_a_thousand_candidates_and_more(self):
        # 8 * 5 * 5 * 5 is exactly 1000.
        network = ((1,) * 8, (2,) * 5, (3,) * 5, ("a",) * 5)
        self.assertEqual(len(Observer(network).candidates()), 1000)
        self.assertEqual(len(Observer(network + (("b",),)).candidates()), 1000)
        # No numbers of seats have a product from 1001 to 1007; the second one here has 1008.
        for other in (
                network + (("a", "b"),),
                ((1,) * 7, (2, "b", "c"), (3,) * 6, ("a",) * 8),
                tuple(("a", "b") for _ in range(10)),
                (("a",),) + (("a", "b"),) * 10,
                (("a",) * 8,) * 40):
            with self.subTest(network=other), self.assertRaises(TooManyCandidates):
                Observer(other)
        self.assertEqual(len(Observer((("a", "b"),) * 9).candidates()), 512)
        self.assertEqual(len(Observer(((1,) * 7, (2,) * 7, ("a",) * 5, ("b",) * 4)).candidates()), 980)

    def test_invalid_network_comes_first(self):
        for network, station, seat in (((), 0, -1), ((("a",) * 8,) * 39 + (("B",),), 39, 0), ((("a", 0),), 0, 1)):
            with self.assertRaises(InvalidNetwork) as caught:
                Observer(network)
            self.assertEqual((caught.exception.station, caught.exception.seat), (station, seat))

    def test_returned_lists_may_be_modified(self):
        observer = Observer(SMALL)
        observer.candidates().clear()
        observer.history().append("spoiled")
        observer.possible_finishers("a", 1).append(7)
        self.assertEqual(observer.candidates(), ALL_SMALL)
        self.assertEqual(observer.history(), [])
        self.assertEqual(observer.possible_finishers("a", 1), [0, 1, 2])


class SeeTest(unittest.TestCase):
    """Each method of observation, against plain runs of all candidates."""

    def assert_seen(self, network, name, arguments, wanted):
        """Make sure which candidates remain after one observation, or that it is contradictory."""
        observer = Observer(network)
        if wanted:
            self.assertEqual(getattr(observer, name)(*arguments), len(wanted))
            self.assertEqual(observer.candidates(), wanted)
            self.assertEqual(observer.history(), [(name,) + arguments])
        else:
            with self.assertRaises(Contradiction):
                getattr(observer, name)(*arguments)
            self.assertEqual(observer.candidates(), all_lengths(network))
            self.assertEqual(observer.history(), [])

    def test_examples_of_the_document(self):
        self.assertEqual(Observer(SMALL).see_boat(0, 1, (0, 1, 2)), 4)
        with self.assertRaises(Contradiction):
            Observer(SMALL).see_boat(0, 1, (1, 2, 4))
        self.assertEqual(Observer(SMALL).see_departure(0, 1, 2), 4)
        observer = Observer(SMALL)
        self.assertEqual(observer.see_finisher("a", 1, 2), 4)
        self.assertEqual(observer.candidates(), [(0, 0, 0), (0, 0, 1), (0, 1, 0), (0, 1, 1)])
        self.assertEqual(observer.certain_lengths(), (0, None, None))
        self.assertEqual(observer.history(), [("see_finisher", "a", 1, 2)])
        with self.assertRaises(UnknownPort):
            Observer(SMALL).see_finisher("d", 1, 2)

    def test_boats_and_departures_against_plain_runs(self):
        for network in small_networks(112, 25):
            runs = plain_runs(network, 130)
            for station in range(len(network)):
                for number in (1, 2, 3, 7):
                    boats = {lengths: run.boats[station][number - 1:number] for lengths, run in runs.items()}
                    with self.subTest(network=network, station=station, number=number):
                        for passengers in {boat[0][0] for boat in boats.values() if boat}:
                            wanted = [at for at, boat in boats.items() if boat and boat[0][0] == passengers]
                            self.assert_seen(network, "see_boat", (station, number, passengers), wanted)
                        for time in {boat[0][1] + more for boat in boats.values() if boat for more in (-1, 0, 1)}:
                            wanted = [at for at, boat in boats.items() if boat and boat[0][1] == time]
                            self.assert_seen(network, "see_departure", (station, number, time), wanted)

    def test_finishers_against_plain_runs(self):
        for network in small_networks(113, 25):
            runs = plain_runs(network, 300)
            for port in sorted(reached_ports(network)):
                for number in (1, 2, 3, 5):
                    found = {lengths: run.finishers[port][number - 1][0] for lengths, run in runs.items()}
                    with self.subTest(network=network, port=port, number=number):
                        for passenger in range(max(found.values()) + 2):
                            wanted = [at for at, who in found.items() if who == passenger]
                            self.assert_seen(network, "see_finisher", (port, number, passenger), wanted)

    def test_boats_that_nearly_agree(self):
        self.assert_seen(SMALL, "see_boat", (0, 1, (1, 2, 3)), [lengths for lengths in ALL_SMALL if lengths[0] == 0])
        for passengers in ((1, 2, 2), (2, 2, 3), (0, 2, 3), (0, 0, 0), (2, 1, 3), (1, 2, 10 ** 30)):
            self.assert_seen(SMALL, "see_boat", (0, 1, passengers), [])

    def test_departures_at_the_ends_of_time(self):
        self.assert_seen(SMALL, "see_departure", (0, 1, 0), [])
        self.assert_seen(SMALL, "see_departure", (0, 1, MOST_TIME), [])
        self.assert_seen(SMALL, "see_departure", (0, 1, 1), [lengths for lengths in ALL_SMALL if lengths[0] == 2])

    def test_stations_that_cannot_be_reached_contradict(self):
        self.assert_seen(BESIDE, "see_boat", (1, 1, (0, 0, 0)), [])
        self.assert_seen(BESIDE, "see_boat", (1, 1, (0, 0, 1)), [])
        self.assert_seen(BESIDE, "see_departure", (1, 1, 0), [])
        self.assert_seen(BESIDE, "see_departure", (1, MOST_NUMBER, MOST_TIME), [])

    def test_stations_that_cannot_be_reached_do_not_matter(self):
        observer = Observer(BESIDE)
        self.assertEqual(observer.see_boat(0, 1, (0, 1)), 6)
        self.assertEqual(observer.candidates(), [at for at in all_lengths(BESIDE) if at[0] == 1])
        self.assertEqual(observer.see_finisher("c", 1, 0), 6)
        self.assertEqual(observer.certain_lengths(), (1, None, None))

    def assert_seen_by_tracing(self, network, station, port, number):
        """Make sure what remains of all candidates after each possible observation of a number."""
        boats, finishers = {}, {}
        for lengths in all_lengths(network):
            state, waiting = numbered_state(lengths)
            passengers, time = boat(network, state, station, number)
            boats[lengths] = (tuple(max(0, who - waiting) for who in passengers), time)
            finishers[lengths] = max(0, finisher(network, state, port, number)[0] - waiting)
        for part, name in enumerate(("see_boat", "see_departure")):
            for seen in {found[part] for found in boats.values()}:
                wanted = [at for at, found in boats.items() if found[part] == seen]
                self.assert_seen(network, name, (station, number, seen), wanted)
        for seen in set(finishers.values()):
            wanted = [at for at, found in finishers.items() if found == seen]
            self.assert_seen(network, "see_finisher", (port, number, seen), wanted)
        self.assertEqual(Observer(network).possible_finishers(port, number), sorted(set(finishers.values())))

    def test_far_numbers_against_tracing(self):
        chooser = random.Random(114)
        for network in small_networks(115, 12):
            station = chooser.choice(sorted(reached_from_start(network)))
            port = chooser.choice(sorted(reached_ports(network)))
            for number in (MOST_NUMBER, chooser.randint(1000, MOST_NUMBER)):
                with self.subTest(network=network, station=station, port=port, number=number):
                    self.assert_seen_by_tracing(network, station, port, number)

    def test_journeys_of_several_periods(self):
        # Periods of three and four arrivals; some passengers wait here for four and nine.
        networks = (
            ((2,), (2,), (3, 3, "c"), ("b", "a")),
            ((1,), (4, 3, 3, "c"), ("a", "a", "b"), (4, "b"), ("b", "b")))
        for network in networks:
            for station in sorted(reached_from_start(network)):
                for number in (1, 2, 3, 4, 5, 6, 7, 12, MOST_NUMBER):
                    with self.subTest(network=network, station=station, number=number):
                        self.assert_seen_by_tracing(network, station, "b", number)

    def test_far_numbers_of_one_station(self):
        network = (("a", "b", "c"),)
        self.assert_seen(network, "see_boat", (0, MOST_NUMBER, (2999998, 2999999, 3000000)), [(0,)])
        self.assert_seen(network, "see_boat", (0, MOST_NUMBER, (2999996, 2999997, 2999998)), [(2,)])
        self.assert_seen(network, "see_departure", (0, MOST_NUMBER, 2999999), [(1,)])
        self.assert_seen(network, "see_finisher", ("b", MOST_NUMBER, 2999998), [(1,)])

    def test_waiting_passengers_far_from_the_beginning(self):
        # Whoever waits at station 3 leaves at the eighth boat of station 0 at the earliest.
        network = (("p", 1), ("p", 2), ("p", 3), ("p", "q"))
        runs = plain_runs(network, 80)
        for number in (1, 2, 3):
            found = {lengths: run.finishers["q"][number - 1][0] for lengths, run in runs.items()}
            self.assertEqual(Observer(network).possible_finishers("q", number), sorted(set(found.values())))
            for passenger in set(found.values()):
                wanted = [at for at, who in found.items() if who == passenger]
                self.assert_seen(network, "see_finisher", ("q", number, passenger), wanted)

    def test_many_single_seats(self):
        network = tuple((station + 1,) for station in range(31)) + tuple(
            ("a", station + 1) if station < 39 else ("a", "b") for station in range(31, 40))
        observer = Observer(network)
        self.assertEqual(len(observer.candidates()), 512)
        self.assertEqual(observer.see_departure(39, 1, 1), 1)
        self.assertEqual(observer.candidates(), [(0,) * 31 + (1,) * 9])


class SequenceTest(unittest.TestCase):
    """Several observations, one after another."""

    def observe(self, chooser, network, runs, truth):
        """Return (name, arguments, wanted candidates among all) of a random observation."""
        run = runs[chooser.choice(sorted(runs))] if chooser.random() < 0.4 else runs[truth]
        kind = chooser.choice(["see_boat", "see_departure", "see_finisher"])
        number = chooser.randint(1, 4)
        if kind == "see_finisher":
            port = chooser.choice(sorted(reached_ports(network)))
            passenger = run.finishers[port][number - 1][0]
            wanted = [at for at, other in runs.items() if other.finishers[port][number - 1][0] == passenger]
            return kind, (port, number, passenger), wanted
        station = chooser.choice(sorted(reached_from_start(network)))
        part = 0 if kind == "see_boat" else 1
        told = run.boats[station][number - 1][part]
        wanted = [at for at, other in runs.items() if other.boats[station][number - 1][part] == told]
        return kind, (station, number, told), wanted

    def assert_known(self, observer, network, runs, remaining, history):
        self.assertEqual(observer.candidates(), remaining)
        self.assertEqual(observer.history(), history)
        certain = tuple(part[0] if len(set(part)) == 1 else None for part in zip(*remaining))
        self.assertEqual(observer.certain_lengths(), certain)
        for port in sorted(reached_ports(network)):
            best = []
            for number in range(1, 6):
                found = [runs[lengths].finishers[port][number - 1][0] for lengths in remaining]
                self.assertEqual(observer.possible_finishers(port, number), sorted(set(found)))
                best.append(max(found.count(who) for who in set(found)))
                self.assertEqual(observer.best_number(port, number), best.index(min(best)) + 1)

    def test_true_and_contradicting_observations_in_any_order(self):
        chooser = random.Random(116)
        contradictions = 0
        for network in small_networks(117, 40):
            runs = plain_runs(network, 400)
            truth = chooser.choice(sorted(runs))
            observer, remaining, history = Observer(network), sorted(runs), []
            with self.subTest(network=network, truth=truth):
                for _ in range(8):
                    name, arguments, wanted = self.observe(chooser, network, runs, truth)
                    left = [at for at in remaining if at in wanted]
                    if left:
                        self.assertEqual(getattr(observer, name)(*arguments), len(left))
                        remaining = left
                        history.append((name,) + arguments)
                    else:
                        contradictions += 1
                        with self.assertRaises(Contradiction):
                            getattr(observer, name)(*arguments)
                    self.assert_known(observer, network, runs, remaining, history)
        self.assertGreater(contradictions, 20)

    def test_the_same_observation_twice_is_recorded_twice(self):
        observer = Observer(SMALL)
        self.assertEqual([observer.see_departure(0, 1, 2), observer.see_departure(0, 1, 2)], [4, 4])
        self.assertEqual(observer.history(), [("see_departure", 0, 1, 2)] * 2)

    def test_an_observation_that_tells_nothing_is_recorded(self):
        observer = Observer((("a",),))
        self.assertEqual(observer.see_boat(0, 3, (3,)), 1)
        self.assertEqual(observer.see_finisher("a", 3, 3), 1)
        self.assertEqual(observer.history(), [("see_boat", 0, 3, (3,)), ("see_finisher", "a", 3, 3)])
        self.assertEqual(observer.certain_lengths(), (0,))

    def test_a_contradiction_changes_nothing(self):
        observer = Observer(SMALL)
        observer.see_departure(0, 1, 2)
        for _ in range(2):
            with self.assertRaises(Contradiction):
                observer.see_departure(0, 1, 3)
            with self.assertRaises(Contradiction):
                observer.see_boat(0, 1, (1, 2, 3))
            with self.assertRaises(Contradiction):
                observer.see_finisher("a", 1, 2)
        self.assertEqual(observer.candidates(), [lengths for lengths in ALL_SMALL if lengths[0] == 1])
        self.assertEqual(observer.history(), [("see_departure", 0, 1, 2)])
        self.assertEqual(observer.see_boat(0, 1, (0, 1, 2)), 4)

    def test_two_observers_do_not_disturb_each_other(self):
        network = ((1, "a", 1), (2, "b"), ("c", "b"))
        one, other = Observer(network), Observer(network)
        one.see_departure(0, 1, 2)
        self.assertEqual(other.candidates(), ALL_SMALL)
        self.assertEqual(other.history(), [])
        other.see_departure(0, 1, 3)
        self.assertEqual([one.certain_lengths(), other.certain_lengths()], [(1, None, None), (0, None, None)])
        self.assertEqual(one.history(), [("see_departure", 0, 1, 2)])
        self.assertEqual(network, SMALL)

    def test_candidates_that_nothing_tells_apart_stay(self):
        observer = Observer(BESIDE)
        observer.see_departure(0, 1, 1)
        observer.see_departure(2, 1, 1)
        self.assertEqual(observer.candidates(), [(1, 0, 1), (1, 1, 1), (1, 2, 1)])
        self.assertEqual(observer.certain_lengths(), (1, None, 1))


class AskTest(unittest.TestCase):

    def test_examples_of_the_document(self):
        self.assertEqual(Observer(SMALL).possible_finishers("a", 1), [0, 1, 2])
        self.assertEqual(Observer(SMALL).best_number("a", 5), 1)

    def test_best_numbers_against_plain_runs(self):
        later = 0
        for network in small_networks(118, 30):
            runs = plain_runs(network, 900)
            for port in sorted(reached_ports(network)):
                if min(len(run.finishers.get(port, [])) for run in runs.values()) < 50:
                    continue
                most = []
                for number in range(1, 51):
                    found = [run.finishers[port][number - 1][0] for run in runs.values()]
                    most.append(max(found.count(who) for who in set(found)))
                with self.subTest(network=network, port=port):
                    for limit in (1, 2, 7, 50):
                        wanted = most.index(min(most[:limit])) + 1
                        later += wanted > 1
                        self.assertEqual(Observer(network).best_number(port, limit), wanted)
        self.assertGreater(later, 10)

    def test_the_first_of_equally_good_numbers(self):
        self.assertEqual(Observer((("a", "b"),)).best_number("a", 1), 1)
        # Those who wait are all 0 in the first boat; later boats tell more.
        self.assertEqual(Observer((("b", "b", "a"),)).best_number("a", 50), 1)
        self.assertEqual(Observer((("a", "b", "b"),)).best_number("a", 1), 1)
        self.assertEqual(Observer((("a", "b", "b"),)).best_number("a", 2), 2)
        self.assertEqual(Observer((("a", "b", "b"),)).best_number("a", 50), 2)

    def test_asking_changes_nothing(self):
        observer = Observer(SMALL)
        for _ in range(2):
            self.assertEqual(observer.possible_finishers("a", 1), [0, 1, 2])
            self.assertEqual(observer.best_number("a", 5), 1)
            self.assertEqual(observer.certain_lengths(), (None, None, None))
        self.assertEqual((observer.candidates(), observer.history()), (ALL_SMALL, []))

    def test_kinds_of_values(self):
        observer = Observer(SMALL)
        self.assertIs(type(observer.certain_lengths()), tuple)
        for found in (observer.candidates(), observer.history(), observer.possible_finishers("a", 1)):
            self.assertIs(type(found), list)
        self.assertEqual({type(lengths) for lengths in observer.candidates()}, {tuple})


class ErrorTest(unittest.TestCase):

    def assert_raises(self, error, name, *arguments, network=BESIDE):
        observer = Observer(network)
        with self.subTest(name=name, arguments=arguments), self.assertRaises(error):
            getattr(observer, name)(*arguments)
        self.assertEqual((observer.candidates(), observer.history()), (all_lengths(network), []))

    def test_methods_are_defined_in_the_class_itself(self):
        for name in ("see_boat", "see_departure", "see_finisher", "candidates", "certain_lengths",
                     "possible_finishers", "best_number", "history"):
            self.assertIn(name, vars(Observer))

    def test_see_boat(self):
        for station in (-1, 3, 40):
            self.assert_raises(UnknownStation, "see_boat", station, 0, (-1,))
        for station, passengers in ((0, (-1, 0)), (0, (0,)), (0, (0, 1)), (1, (0, 0, 0)), (1, (-1,))):
            for number in (0, -1, MOST_NUMBER + 1):
                self.assert_raises(InvalidCount, "see_boat", station, number, passengers)
        for station, many in ((0, 2), (1, 3), (2, 2)):
            for passengers in ((), (1,), (1,) * (many + 1), (0,) * (many - 1) + (-1,), (-1,) + (0,) * (many - 1)):
                for number in (1, MOST_NUMBER):
                    self.assert_raises(InvalidPassengers, "see_boat", station, number, passengers)
        self.assert_raises(Contradiction, "see_boat", 1, MOST_NUMBER, (0, 0, 0))
        self.assert_raises(Contradiction, "see_boat", 0, MOST_NUMBER, (0, 0))

    def test_see_departure(self):
        for station in (-1, 3, 40):
            self.assert_raises(UnknownStation, "see_departure", station, 0, -1)
        for station in (0, 1, 2):
            for number in (0, -1, MOST_NUMBER + 1):
                self.assert_raises(InvalidCount, "see_departure", station, number, 5)
            for time in (-1, MOST_TIME + 1):
                self.assert_raises(InvalidCount, "see_departure", station, 1, time)
            for time in (0, MOST_TIME):
                self.assert_raises(Contradiction, "see_departure", station, MOST_NUMBER, time)

    def test_see_finisher(self):
        for port in ("b", "z", "nowhere", ""):
            self.assert_raises(UnknownPort, "see_finisher", port, 0, -1)
            self.assert_raises(UnknownPort, "see_finisher", port, 1, 1)
        for number in (0, -1, MOST_NUMBER + 1):
            for passenger in (-1, 0, 1):
                self.assert_raises(InvalidCount, "see_finisher", "a", number, passenger)
        for number in (1, MOST_NUMBER):
            self.assert_raises(InvalidPassengers, "see_finisher", "a", number, -1)
            self.assert_raises(Contradiction, "see_finisher", "a", number, 10 ** 30)
        self.assert_raises(Contradiction, "see_finisher", "a", MOST_NUMBER, 0)

    def test_possible_finishers(self):
        for port in ("b", "z", "nowhere"):
            for number in (0, 1, MOST_NUMBER + 1):
                self.assert_raises(UnknownPort, "possible_finishers", port, number)
        for number in (0, -1, MOST_NUMBER + 1):
            self.assert_raises(InvalidCount, "possible_finishers", "a", number)
        self.assertEqual(Observer((("a",),)).possible_finishers("a", MOST_NUMBER), [MOST_NUMBER])

    def test_best_number(self):
        for port in ("b", "z", "nowhere"):
            for limit in (0, 1, 51):
                self.assert_raises(UnknownPort, "best_number", port, limit)
        for limit in (0, -1, 51, 10 ** 6):
            self.assert_raises(InvalidCount, "best_number", "a", limit)
        self.assertEqual(Observer((("a",),)).best_number("a", 50), 1)

    def test_all_errors_are_ferry_errors(self):
        with self.assertRaises(FerryError):
            Observer((("a",) * 8,) * 40)


if __name__ == "__main__":
    unittest.main()
