"""Tests of fullboats.networks: point 2, and point 1 as far as it speaks of networks."""

import unittest

from fullboats.errors import InvalidNetwork
from fullboats.networks import ports, reachable_stations
from fullboats.states import arrive, initial_state
from plain import chain


def arrive_anywhere(network):
    """Call arrive with a state that no network has, so that only the network's error may come."""
    return arrive(network, (0, ((0, 0),) * 50))


TAKERS = (reachable_stations, ports, initial_state, arrive_anywhere)


class ValidNetworkTest(unittest.TestCase):

    def test_one_station(self):
        self.assertEqual(reachable_stations((("a",),)), [0])

    def test_forty_stations(self):
        self.assertEqual(reachable_stations(chain(40)), list(range(40)))
        self.assertEqual(ports(chain(40)), ["end"])

    def test_one_and_eight_seats(self):
        network = (tuple("abcdefg") + (1,), ("h",))
        self.assertEqual(ports(network), list("abcdefgh"))

    def test_ports_of_one_and_of_eight_letters(self):
        self.assertEqual(ports((("z", "abcdefgh", "a", "zzzzzzzz"),)), ["a", "abcdefgh", "z", "zzzzzzzz"])

    def test_a_seat_may_lead_to_any_later_station(self):
        self.assertEqual(reachable_stations(((1, 2, 3), (3,), ("a",), ("b",))), [0, 1, 2, 3])

    def test_a_port_may_be_named_like_anything(self):
        self.assertEqual(ports((("next", "queue", "station"),)), ["next", "queue", "station"])


class InvalidNetworkTest(unittest.TestCase):

    def assert_fault(self, network, station, seat):
        """Every function that takes a network must tell the same fault."""
        for taker in TAKERS:
            with self.subTest(taker=taker.__name__):
                with self.assertRaises(InvalidNetwork) as caught:
                    taker(network)
                self.assertEqual((caught.exception.station, caught.exception.seat), (station, seat))

    def test_no_station(self):
        self.assert_fault((), 0, -1)

    def test_a_41st_station(self):
        self.assert_fault(chain(41), 40, -1)
        self.assert_fault((("a",),) * 41, 40, -1)
        self.assert_fault((("a",),) * 60, 40, -1)

    def test_a_41st_station_with_faults_of_its_own(self):
        self.assert_fault((("a",),) * 40 + ((),), 40, -1)
        self.assert_fault((("a",),) * 40 + (("a", "B"),), 40, -1)

    def test_a_fault_before_a_41st_station(self):
        self.assert_fault((("a",),) * 39 + (("a", "B"),) + (("a",),), 39, 1)
        self.assert_fault(((),) + (("a",),) * 40, 0, -1)

    def test_a_station_of_no_seat(self):
        self.assert_fault(((),), 0, -1)
        self.assert_fault((("a", 2), ("b",), ()), 2, -1)

    def test_a_station_of_nine_seats(self):
        self.assert_fault((("a",) * 9,), 0, -1)
        self.assert_fault((("a",), ("a",) * 8, ("a",) * 9), 2, -1)

    def test_the_number_of_seats_comes_before_the_seats(self):
        self.assert_fault((("a",), ("B",) + ("a",) * 8), 1, -1)

    def test_a_seat_to_its_own_station(self):
        self.assert_fault((("a", 0),), 0, 1)
        self.assert_fault((("a", 1), ("a", "b", 1), ("c",)), 1, 2)

    def test_a_seat_to_an_earlier_station(self):
        self.assert_fault(((1,), ("a", 0)), 1, 1)
        self.assert_fault((("a",), ("a",), (1,)), 2, 0)

    def test_a_seat_to_a_negative_station(self):
        self.assert_fault((("a", "b", -1),), 0, 2)
        self.assert_fault((("a",), (-2, "a")), 1, 0)

    def test_a_seat_to_a_station_that_there_is_not(self):
        self.assert_fault((("a", 1),), 0, 1)
        self.assert_fault(((1, 2), (3,), ("a",)), 1, 0)
        self.assert_fault(((1,), ("a", 40)), 1, 1)
        self.assert_fault(chain(39) + ((40,),), 39, 0)

    def test_a_port_of_no_letter(self):
        self.assert_fault((("a", ""),), 0, 1)

    def test_a_port_of_nine_letters(self):
        self.assert_fault((("a", "b", "abcdefghi"),), 0, 2)

    def test_a_port_with_a_sign_that_is_no_letter_a_to_z(self):
        for sign in "AZ09 -_.#'`{\n\u00e4\u00aa\u0430":
            for name in (sign, sign + "b", "b" + sign, "a" + sign + "b", "abcdefg" + sign):
                with self.subTest(name=name):
                    self.assert_fault((("a", name),), 0, 1)

    def test_the_first_of_several_faults_by_station(self):
        self.assert_fault((("a",), ("b", "c", "D"), ("E",), ()), 1, 2)
        self.assert_fault((("a",), (), ("B",)), 1, -1)

    def test_the_first_of_several_faults_by_seat(self):
        self.assert_fault((("a", "B", 0, 5),), 0, 1)
        self.assert_fault((("a",), ("a", 1, "", 9)), 1, 1)

    def test_faults_of_stations_that_cannot_be_reached(self):
        self.assert_fault((("a",), ("b", 0)), 1, 1)


class ReachableTest(unittest.TestCase):

    def test_examples_of_the_document(self):
        self.assertEqual(reachable_stations(((2, "a"), ("b",), ("c", "c"))), [0, 2])
        with self.assertRaises(InvalidNetwork) as caught:
            reachable_stations((("a", 0),))
        self.assertEqual((caught.exception.station, caught.exception.seat), (0, 1))
        network = ((1, "a", 1), (2, "b"), ("c", "b"))
        self.assertEqual(ports(network), ["a", "b", "c"])

    def test_stations_are_ascending_and_each_is_told_once(self):
        network = ((4, 2, 4), ("a",), (3, 4), (4, 4), ("b",))
        self.assertEqual(reachable_stations(network), [0, 2, 3, 4])

    def test_many_stations_are_ascending(self):
        network = (tuple(range(39, 31, -1)),) + (("a",),) * 39
        self.assertEqual(reachable_stations(network), [0] + list(range(32, 40)))

    def test_a_station_that_only_unreachable_ones_lead_to(self):
        network = ((3,), (2, 3), ("b",), ("a", "c"))
        self.assertEqual(reachable_stations(network), [0, 3])

    def test_station_0_alone(self):
        self.assertEqual(reachable_stations((("b", "a"), (2,), ("c",))), [0])

    def test_ports_are_ascending_and_each_is_told_once(self):
        network = (("b", 1, "ab"), ("z", "b", "a", "aa", "z"))
        self.assertEqual(ports(network), ["a", "aa", "ab", "b", "z"])

    def test_ports_that_cannot_be_reached(self):
        network = ((2, "m"), ("x", "m", 2), ("d", 4), ("y",), ("c",))
        self.assertEqual(ports(network), ["c", "d", "m"])

    def test_returned_lists_may_be_modified(self):
        network = ((1, "a"), ("b",))
        for taker, wanted in ((reachable_stations, [0, 1]), (ports, ["a", "b"])):
            with self.subTest(taker=taker.__name__):
                taker(network).append("spoiled")
                self.assertEqual(taker(network), wanted)
        self.assertEqual(network, ((1, "a"), ("b",)))

    def test_a_call_that_raises_an_error_changes_nothing(self):
        network = ((1, "a"), ("b",))
        with self.assertRaises(InvalidNetwork):
            ports(((1, "a"), ("b", 0)))
        self.assertEqual(ports(network), ["a", "b"])
        self.assertEqual(reachable_stations(network), [0, 1])

    def test_kinds_of_values(self):
        network = ((1, "a"), ("b",))
        self.assertIs(type(reachable_stations(network)), list)
        self.assertIs(type(ports(network)), list)


if __name__ == "__main__":
    unittest.main()
