"""Tests of fullboats.simplifying: point 12, and point 1 as far as it speaks of these."""

import random
import unittest

from fullboats.counting import count_finished
from fullboats.errors import InvalidCount, InvalidNetwork, InvalidState
from fullboats.simplifying import first_difference, simplify
from fullboats.states import initial_state
from plain import EMPTY, SMALL, PlainRun, chain, random_cases, random_network, random_state, reached_from_start

BAD_NETWORK = (("a",), ("b", 1))


def random_cases_of_single_seats(seed, many):
    """Yield many (network, state) in which many stations have a single seat."""
    chooser = random.Random(seed)
    for _ in range(many):
        network = tuple(
            seats if chooser.random() < 0.5 else seats[:1] for seats in random_network(chooser, 12))
        yield network, random_state(chooser, network)


class SimplifyTest(unittest.TestCase):

    def test_example_of_the_document(self):
        self.assertEqual(
            simplify(((1, 2), (3,), ("a", "b"), ("c",)), (2, ((1,), (), (), ()))),
            ((("c", 1), ("a", "b")), (2, ((1,), ()))))

    def test_nothing_to_simplify(self):
        state = (9, ((7, 3), (5,), (8,)))
        self.assertEqual(simplify(SMALL, state), (SMALL, state))

    def test_single_seats_behind_each_other(self):
        network = (("x", 1), (2,), (3,), (4,), ("a", "b"))
        self.assertEqual(
            simplify(network, (3, ((1,), (), (), (), (2,)))), ((("x", 1), ("a", "b")), (3, ((1,), (2,)))))
        network = ((1, 2), (3,), (3,), (4,), ("a",))
        self.assertEqual(simplify(network, initial_state(network)), ((("a", "a"),), (1, ((),))))

    def test_station_0_of_a_single_seat_stays(self):
        self.assertEqual(simplify((("a",),), (4, ((),))), ((("a",),), (4, ((),))))
        self.assertEqual(simplify(((1,), ("a", "b")), (4, ((), (2,)))), (((1,), ("a", "b")), (4, ((), (2,)))))
        self.assertEqual(simplify(((1,), (2,), ("a", "b")), (4, ((), (), (2,)))), (((1,), ("a", "b")), (4, ((), (2,)))))
        self.assertEqual(simplify(chain(40), initial_state(chain(40))), ((("end",),), (1, ((),))))

    def test_stations_that_cannot_be_reached(self):
        network = ((3, "a"), (2, "b"), ("c", "d", "e"), ("f", 4), ("g", "h"), ("i",))
        state = (20, ((9,), (3,), (4, 1), (), (7,), ()))
        self.assertEqual(
            simplify(network, state), (((1, "a"), ("f", 2), ("g", "h")), (20, ((9,), (), (7,)))))

    def test_the_others_keep_their_order(self):
        network = ((4, 2, 3), ("z",), (5, 4), (5,), (5, "a"), ("b", "c"))
        state = (9, ((1, 2), (), (3,), (), (4,), (5,)))
        self.assertEqual(
            simplify(network, state),
            (((2, 1, 3), (3, 2), (3, "a"), ("b", "c")), (9, ((1, 2), (3,), (4,), (5,)))))

    def test_the_same_passengers_finish_as_before(self):
        for network, state in random_cases_of_single_seats(121, 150):
            simple, simple_state = simplify(network, state)
            run, simple_run = PlainRun(network, state), PlainRun(simple, simple_state)
            with self.subTest(network=network, state=state):
                for _ in range(40):
                    self.assertEqual(run.arrive(), simple_run.arrive())
                self.assertIsNone(first_difference(network, state, simple, simple_state, 100))
                self.assertEqual(
                    count_finished(network, state, 10 ** 18), count_finished(simple, simple_state, 10 ** 18))

    def test_the_form_of_the_result(self):
        for network, state in random_cases_of_single_seats(122, 150):
            simple, simple_state = simplify(network, state)
            kept = [at for at in sorted(reached_from_start(network)) if at == 0 or len(network[at]) > 1]
            with self.subTest(network=network, state=state):
                self.assertEqual([len(seats) for seats in simple], [len(network[at]) for at in kept])
                self.assertEqual(simple_state, (state[0], tuple(state[1][at] for at in kept)))
                self.assertEqual(reached_from_start(simple), set(range(len(simple))))

    def test_simplifying_twice_changes_nothing_more(self):
        for network, state in random_cases_of_single_seats(123, 150):
            once = simplify(network, state)
            with self.subTest(network=network, state=state):
                self.assertEqual(simplify(*once), once)

    def test_order_of_the_errors(self):
        with self.assertRaises(InvalidNetwork) as caught:
            simplify(BAD_NETWORK, (0, ()))
        self.assertEqual((caught.exception.station, caught.exception.seat), (1, 1))
        for state in ((0, ((), (), ())), (3, ((1, 3), (), ())), (1, ())):
            with self.assertRaises(InvalidState):
                simplify(SMALL, state)
        # Also those who wait where nobody gets must be valid.
        with self.assertRaises(InvalidState):
            simplify((("a",), ("b", "c")), (1, ((), (1,))))

    def test_kinds_of_values(self):
        simple, state = simplify(((1, 2), (3,), ("a", "b"), ("c",)), (2, ((1,), (), (), ())))
        self.assertEqual([type(part) for part in (simple, simple[0], state, state[1], state[1][0])], [tuple] * 5)

    def test_arguments_stay(self):
        network, state = ((1, 2), (3,), ("a", "b"), ("c",)), (2, ((1,), (), (), ()))
        first = simplify(network, state)
        self.assertEqual((network, state), (((1, 2), (3,), ("a", "b"), ("c",)), (2, ((1,), (), (), ()))))
        self.assertEqual(simplify(network, state), first)


class FirstDifferenceTest(unittest.TestCase):

    def test_example_of_the_document(self):
        self.assertEqual(first_difference((("a", "b"),), (1, ((),)), (("a", "a"),), (1, ((),)), 10), 2)

    def test_against_plain_runs(self):
        chooser = random.Random(124)
        found = {}
        for network, state in random_cases(125, 300, most_stations=5):
            other = list(map(list, network))
            station = chooser.randrange(len(other))
            other[station][chooser.randrange(len(other[station]))] = chooser.choice(["a", "b", "c"])
            other = tuple(map(tuple, other))
            run, other_run = PlainRun(network, state), PlainRun(other, state)
            wanted = None
            for arrival in range(1, 41):
                if run.arrive() != other_run.arrive():
                    wanted = arrival
                    break
            found[wanted] = found.get(wanted, 0) + 1
            with self.subTest(network=network, state=state, other=other):
                self.assertEqual(first_difference(network, state, other, state, 40), wanted)
                if wanted is not None:
                    self.assertEqual(first_difference(network, state, other, state, wanted), wanted)
                    self.assertIsNone(first_difference(network, state, other, state, wanted - 1))
        self.assertGreater(len(found), 8)

    def test_a_network_and_itself(self):
        for network, state in random_cases(126, 10):
            self.assertIsNone(first_difference(network, state, network, state, 100))

    def test_other_passengers_and_other_orders(self):
        one = (("a", "b"),)
        self.assertEqual(first_difference(one, (1, ((),)), one, (2, ((),)), 10), 2)
        self.assertEqual(first_difference(one, (2, ((1,),)), one, (2, ((),)), 10), 1)
        self.assertEqual(first_difference(one, (3, ((1,),)), one, (3, ((2,),)), 10), 1)
        self.assertEqual(first_difference(one, (1, ((),)), (("b", "a"),), (1, ((),)), 10), 2)
        network, other = ((1, "a"), ("b",)), (("b", "a"),)
        self.assertIsNone(first_difference(network, (1, ((), ())), other, (1, ((),)), 10))

    def test_the_same_passengers_at_the_same_ports_in_another_order(self):
        network, state = ((1, "b"), ("c", "d")), (7, ((3,), (2,)))
        # At the first arrival, 2 reaches c, then 3 reaches d, then 7 reaches b.
        self.assertEqual(first_difference(network, state, (("d", "c", "b"),), (7, ((3, 2),)), 10), 1)
        self.assertEqual(first_difference(network, state, (("c", "d", "b"),), (7, ((2, 3),)), 10), 3)

    def test_waiting_passengers_differ_only_where_nobody_gets(self):
        network = (("a",), ("b", "c"))
        self.assertIsNone(first_difference(network, (3, ((), (1,))), network, (3, ((), (2,))), 2000))

    def test_the_least_and_the_most_count(self):
        for count in (-1, 2001, 10 ** 18):
            with self.subTest(count=count), self.assertRaises(InvalidCount):
                first_difference(SMALL, EMPTY, SMALL, EMPTY, count)
        self.assertIsNone(first_difference((("a",),), (1, ((),)), (("b",),), (1, ((),)), 0))
        self.assertEqual(first_difference((("a",),), (1, ((),)), (("b",),), (1, ((),)), 1), 1)
        self.assertIsNone(first_difference(SMALL, EMPTY, SMALL, EMPTY, 2000))

    def test_the_last_of_the_most_arrivals(self):
        # The boat of the last station departs for the first time at the arrival 2000 = 8 * 5 * 5 * 5 * 2.
        network = (("p",) * 7 + (1,), ("p",) * 4 + (2,), ("p",) * 4 + (3,), ("p",) * 4 + (4,), ("p", "q"))
        other = network[:4] + (("p", "r"),)
        state = initial_state(network)
        self.assertEqual(first_difference(network, state, other, state, 2000), 2000)
        self.assertIsNone(first_difference(network, state, other, state, 1999))

    def test_order_of_the_errors(self):
        bad_state = (3, ((1, 3), (), ()))
        other_bad = (("a",), ("b",), ("c", 2, "d"))
        with self.assertRaises(InvalidNetwork) as caught:
            first_difference(BAD_NETWORK, (0, ()), other_bad, (0, ()), -1)
        self.assertEqual((caught.exception.station, caught.exception.seat), (1, 1))
        with self.assertRaises(InvalidState):
            first_difference(SMALL, bad_state, other_bad, (0, ()), -1)
        with self.assertRaises(InvalidNetwork) as caught:
            first_difference(SMALL, EMPTY, other_bad, (0, ()), -1)
        self.assertEqual((caught.exception.station, caught.exception.seat), (2, 1))
        with self.assertRaises(InvalidState):
            first_difference(SMALL, EMPTY, SMALL, bad_state, -1)
        with self.assertRaises(InvalidState):
            first_difference(SMALL, EMPTY, (("a",),), EMPTY, 2001)
        with self.assertRaises(InvalidCount):
            first_difference(SMALL, EMPTY, (("a",),), (1, ((),)), 2001)

    def test_arguments_stay(self):
        network, state = ((1, "a", 1), (2, "b"), ("c", "b")), (1, ((), (), ()))
        for _ in range(2):
            self.assertEqual(first_difference(network, state, (("a",),), (1, ((),)), 9), 1)
            with self.assertRaises(InvalidCount):
                first_difference(network, state, network, state, -1)
        self.assertEqual((network, state), (SMALL, EMPTY))


if __name__ == "__main__":
    unittest.main()
