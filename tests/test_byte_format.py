"""Tests of fullboats.byte_format: point 21, and point 1 as far as it speaks of it."""

import random
import unittest

from fullboats.byte_format import (
    decode_network, decode_state, encode_network, encode_state, pack_bytes, unpack_bytes)
from fullboats.errors import InvalidCount, InvalidData, InvalidNetwork, InvalidState
from plain import SMALL, chain, random_cases
from plain_bytes import (
    PlainFault, changes_of, checksum, network_bytes, network_of, number, sealed, state_bytes, state_of, word)

BAD_NETWORK = (("a",), ("b", 1))
SIZES = (1, 2, 126, 127, 128, 129, 16383, 16384, 16385, 2 ** 21 - 1, 2 ** 21, 10 ** 18 - 1, 10 ** 18, 10 ** 18 + 1, 10 ** 40)


class PackTest(unittest.TestCase):

    def test_examples_of_the_document(self):
        self.assertEqual([pack_bytes([78, 1]), unpack_bytes(pack_bytes([78, 1]))], [b"N\x01", [78, 1]])

    def test_all_bytes(self):
        for kind in (list, tuple):
            numbers = kind(range(256))
            data = pack_bytes(numbers)
            self.assertEqual((type(data), data), (bytes, bytes(range(256))))
            self.assertEqual(numbers, kind(range(256)))
            self.assertEqual(unpack_bytes(data), list(range(256)))
            self.assertEqual(pack_bytes(kind()), b"")
        self.assertEqual(unpack_bytes(b""), [])

    def test_other_integers(self):
        for value in (-1, 256, -256, 1000, 10 ** 30, -10 ** 30):
            for numbers in ([value], (value,), [1, value], [value, 1], (0, 255, value), [-1, 256]):
                with self.subTest(numbers=numbers), self.assertRaises(InvalidCount):
                    pack_bytes(numbers)

    def test_returned_lists_may_be_modified(self):
        data = b"abc"
        for _ in range(2):
            numbers = unpack_bytes(data)
            self.assertEqual(numbers, [97, 98, 99])
            numbers.append(1)


class ByteTest(unittest.TestCase):

    def outcome(self, function, *arguments):
        try:
            return function(*arguments)
        except PlainFault as fault:
            return ("fault", fault.args[0])
        except InvalidData as error:
            self.assertEqual(list(vars(error)), ["offset"])
            return ("fault", error.offset)

    def check_network_data(self, data):
        """Check a decoding against the plain one, and return what it gives."""
        wanted = self.outcome(network_of, data)
        with self.subTest(data=list(data)):
            self.assertEqual(self.outcome(decode_network, data), wanted)
            if wanted[0] != "fault":
                self.assertEqual(encode_network(wanted), data)
        return wanted

    def check_state_data(self, network, data):
        wanted = self.outcome(state_of, network, data)
        with self.subTest(network=network, data=list(data)):
            self.assertEqual(self.outcome(decode_state, network, data), wanted)
            if wanted[0] != "fault":
                self.assertEqual(encode_state(network, wanted), data)
        return wanted

    def check_network_fault(self, numbers, offset):
        """Check the offset for some bytes, with a right checksum behind them, and with more bytes."""
        for data in (sealed(numbers), sealed(numbers) + b"\x00"):
            self.assertEqual(self.check_network_data(data), ("fault", offset))

    def check_state_fault(self, network, numbers, offset):
        for data in (sealed(numbers), sealed(numbers) + b"\x00"):
            self.assertEqual(self.check_state_data(network, data), ("fault", offset))


class NetworkBytesTest(ByteTest):

    def test_examples_of_the_document(self):
        self.assertEqual(unpack_bytes(encode_network((("a",),))), [78, 1, 1, 1, 97, 1, 0, 20, 46])
        with self.assertRaises(InvalidData) as caught:
            decode_network(pack_bytes([78, 1, 1, 1, 97, 1, 2, 20, 46]))
        self.assertEqual(caught.exception.offset, 6)

    def test_to_bytes_and_back(self):
        for network, _ in random_cases(211, 400, 20, 8):
            data = encode_network(network)
            self.assertEqual((type(data), data), (bytes, network_bytes(network)))
            self.assertEqual(decode_network(data), network)
            self.assertEqual({type(seats) for seats in decode_network(data)}, {tuple})

    def test_written_out(self):
        network = ((2, "zebra", "a", 1), ("b", 2, "a"), ("zebra", "c"))
        numbers = [78, 3, 4, 5, 122, 101, 98, 114, 97, 1, 97, 1, 98, 1, 99, 4, 3, 0, 2, 1, 3, 4, 1, 2, 2, 0, 6]
        self.assertEqual(encode_network(network), sealed(numbers))
        # Ports at which nobody arrives are listed, too.
        self.assertEqual(encode_network((("b",), ("a",))), sealed([78, 2, 2, 1, 98, 1, 97, 1, 0, 1, 2]))

    def test_largest_networks(self):
        names = [a + b + "xyzuvw" for a in "abcdefghijklmnopqrst" for b in "abcdefghijklmnopqrst"]
        network = tuple(tuple(names[8 * station:8 * station + 8]) for station in range(40))
        data = encode_network(network)
        # There are 320 ports, and so seats' numbers of one and of two groups.
        self.assertEqual(data[:4], bytes([78, 40, 192, 2]))
        self.assertEqual(data, network_bytes(network))
        self.assertEqual(decode_network(data), network)
        for network in (chain(40), tuple((39,) * 8 for _ in range(39)) + (("a",) * 8,)):
            self.assertEqual(encode_network(network), network_bytes(network))
            self.assertEqual(decode_network(encode_network(network)), network)

    def test_checksums(self):
        self.assertEqual(checksum([]), [0, 1])
        self.assertEqual(checksum([78]), [0, 109])
        seen = {encode_network(network)[-2:] for network, _ in random_cases(212, 100)}
        self.assertGreater(len(seen), 90)

    def test_data_that_are_cut_off_and_extended(self):
        for network in ((("a",),), SMALL, ((1, "ab", 2), ("b", "ab"), ("abcdefgh",))):
            data = encode_network(network)
            for length in range(len(data)):
                self.assertEqual(self.check_network_data(data[:length]), ("fault", length))
            for more in (b"\x00", b"N", b"\x00\x00", data, data[-2:]):
                self.assertEqual(self.check_network_data(data + more), ("fault", len(data)))

    def test_changed_data(self):
        decoded = 0
        for network in ((("a",),), ((1, "ab", 2), ("b", "ab"), ("c",))):
            data = encode_network(network)
            for changed in changes_of(data):
                self.assertEqual(self.check_network_data(changed)[0], "fault")
            # With the checksum corrected, some of them are networks.
            for changed in changes_of(data[:-2]):
                decoded += self.check_network_data(sealed(list(changed)))[0] != "fault"
        self.assertGreater(decoded, 50)

    def test_data_that_are_changed_twice(self):
        chooser = random.Random(213)
        found = {"fault": 0}
        for network, _ in random_cases(214, 3000, 4, 4):
            numbers = list(encode_network(network)[:-2])
            for _ in range(2):
                at = chooser.randrange(len(numbers))
                numbers[at:at + chooser.randrange(2)] = chooser.choice(
                    [[], [0], [1], [2], [97], [128], [128, 0], [numbers[at]] * 2, [chooser.randrange(256)]])
            data = sealed(numbers) if chooser.random() < 0.8 else bytes(numbers + [0, 0])
            kind = "fault" if self.check_network_data(data)[0] == "fault" else "network"
            found[kind] = found.get(kind, 0) + 1
        self.assertGreater(min(found.values()), 30)

    def test_each_fault(self):
        good = [78, 2, 2, 1, 98, 1, 97, 2, 0, 1, 1, 2]
        self.assertEqual(self.check_network_data(sealed(good)), (("b", 1), ("a",)))
        for value in (0, 77, 79, 83, 255):
            self.check_network_fault([value] + good[1:], 0)
        for value in (0, 41, 128, 255):
            self.check_network_fault([78, value] + good[2:], 1)
        for value in (0, 9, 97, 255):
            self.check_network_fault([78, 2, 2, value] + good[4:], 3)
            self.check_network_fault([78, 2, 2, 1, 98, value] + good[6:], 5)
            self.check_network_fault(good[:7] + [value] + good[8:], 7)
            self.check_network_fault(good[:10] + [value] + good[11:], 10)
        for value in (0, 32, 65, 96, 123, 225):
            self.check_network_fault([78, 2, 2, 1, value] + good[5:], 4)
            self.check_network_fault([78, 2, 1, 3, 97, 98, value] + good[7:], 6)
        # A port that is listed already, at its length.
        self.check_network_fault([78, 1, 2, 1, 97, 1, 97, 1, 0], 5)
        self.check_network_fault([78, 1, 3, 2, 97, 98, 1, 97, 2, 97, 98, 1, 0], 8)
        # The last one of several groups is 0.
        self.check_network_fault([78, 1, 129, 0, 1, 97, 1, 0], 3)
        self.check_network_fault([78, 1, 129, 128, 0, 1, 97, 1, 0], 4)
        self.check_network_fault([78, 1, 1, 1, 97, 1, 128, 0], 7)
        self.check_network_fault([78, 1, 1, 1, 97, 2, 0, 255, 128, 128, 0], 10)
        # Seats that lead to no station.
        self.check_network_fault([78, 2, 1, 1, 97, 1, 3, 1, 0], 6)
        self.check_network_fault([78, 2, 1, 1, 97, 1, 0, 1, 1], 8)
        self.check_network_fault([78, 1, 1, 1, 97, 2, 0, 1], 7)
        self.check_network_fault([78, 2, 1, 1, 97, 2, 0, 129, 1, 1, 0], 7)
        # Seats that lead to no port, or to one behind the next one of the list.
        self.check_network_fault([78, 1, 1, 1, 97, 1, 2], 6)
        self.check_network_fault([78, 1, 1, 1, 97, 2, 0, 2], 7)
        self.check_network_fault([78, 1, 2, 1, 97, 1, 98, 2, 2, 0], 8)
        self.check_network_fault([78, 1, 3, 1, 97, 1, 98, 1, 99, 3, 0, 4, 2], 11)
        self.check_network_fault([78, 1, 1, 1, 97, 1, 128, 1], 6)
        self.check_network_fault([78, 1, 0, 1, 0], 4)
        # A listed port that is not used, at the checksum.
        self.check_network_fault([78, 1, 2, 1, 97, 1, 98, 1, 0], 9)
        self.check_network_fault([78, 2, 2, 1, 97, 1, 98, 1, 1, 1, 0], 11)

    def test_wrong_checksums(self):
        for network in ((("a",),), SMALL):
            data = encode_network(network)
            for high in range(256):
                wanted = network if high == data[-2] else ("fault", len(data) - 2)
                self.assertEqual(self.check_network_data(data[:-2] + bytes([high, data[-1]])), wanted)
            for low in range(256):
                wanted = network if low == data[-1] else ("fault", len(data) - 1)
                self.assertEqual(self.check_network_data(data[:-1] + bytes([low])), wanted)
            self.assertEqual(self.check_network_data(data[:-2] + bytes([data[-2] ^ 1])), ("fault", len(data) - 2))

    def test_the_first_of_two_faults(self):
        self.check_network_fault([79, 0], 0)
        self.check_network_fault([78, 0, 128, 0], 1)
        self.check_network_fault([78, 1, 128, 0, 9], 3)
        self.check_network_fault([78, 1, 2, 1, 97, 1, 65], 6)
        self.check_network_fault([78, 1, 2, 2, 97, 97, 2, 97, 65], 8)
        self.check_network_fault([78, 1, 2, 1, 97, 1, 97, 9], 5)
        self.check_network_fault([78, 1, 2, 1, 97, 1, 98, 9], 7)
        self.check_network_fault([78, 1, 2, 1, 97, 1, 98, 2, 2, 128, 0], 8)
        # A number is read whole before it is checked.
        self.check_network_fault([78, 1, 1, 1, 97, 1, 130, 0], 7)
        self.assertEqual(self.check_network_data(bytes([78, 1, 1, 1, 97, 1, 130])), ("fault", 7))
        self.assertEqual(self.check_network_data(bytes([78, 1, 1, 1, 97, 1, 130, 128])), ("fault", 8))
        # An unused port is told ahead of a wrong checksum, and where data end.
        self.assertEqual(self.check_network_data(bytes([78, 1, 2, 1, 97, 1, 98, 1, 0, 0, 0, 0])), ("fault", 9))
        self.assertEqual(self.check_network_data(bytes([78, 1, 2, 1, 97, 1, 98, 1, 0])), ("fault", 9))
        # More ports are announced than there are, or than can be.
        self.check_network_fault([78, 1, 255, 255, 255, 255, 127, 1, 97, 1, 98], 11)
        self.check_network_fault([78, 1] + number(10 ** 40) + word("a") + [0], 2 + len(number(10 ** 40)) + 2)

    def test_invalid_networks_have_no_encoding(self):
        for network, station, seat in (((), 0, -1), (BAD_NETWORK, 1, 1), (((),), 0, -1), ((("A",),), 0, 0)):
            with self.assertRaises(InvalidNetwork) as caught:
                encode_network(network)
            self.assertEqual((caught.exception.station, caught.exception.seat), (station, seat))


class StateBytesTest(ByteTest):

    def test_examples_of_the_document(self):
        self.assertEqual(unpack_bytes(encode_state((("a", "b"),), (2, ((1,),)))), [83, 2, 1, 1, 220, 237])
        with self.assertRaises(InvalidData) as caught:
            decode_state((("a", "b"),), pack_bytes([83, 2, 2]))
        self.assertEqual(caught.exception.offset, 2)

    def test_to_bytes_and_back(self):
        for network, state in random_cases(215, 400, 20, 8):
            data = encode_state(network, state)
            self.assertEqual((type(data), data), (bytes, state_bytes(state)))
            found = decode_state(network, data)
            self.assertEqual(found, state)
            self.assertEqual({type(part) for part in (found, found[1], *found[1])}, {tuple})

    def test_numbers_of_all_sizes(self):
        network = (("a", "b", "c"),)
        for following in SIZES:
            for back in SIZES + (following - 1,):
                if 0 < back < following:
                    state = (following, ((following - back,),))
                    data = encode_state(network, state)
                    self.assertEqual(data, state_bytes(state))
                    self.assertEqual(data[1:-2], bytes(number(following) + [1] + number(back)))
                    self.assertEqual(decode_state(network, data), state)
            self.assertEqual(decode_state(network, encode_state(network, (following, ((),)))), (following, ((),)))
        self.assertEqual([number(127), number(128), number(300), number(16384)],
                         [[127], [128, 1], [172, 2], [128, 128, 1]])

    def test_data_that_are_cut_off_and_extended(self):
        for network, state in ((SMALL, (1, ((), (), ()))), (SMALL, (300, ((2, 299), (1,), (150,))))):
            data = encode_state(network, state)
            for length in range(len(data)):
                self.assertEqual(self.check_state_data(network, data[:length]), ("fault", length))
            for more in (b"\x00", b"S", b"\x00\x00", data, data[-2:]):
                self.assertEqual(self.check_state_data(network, data + more), ("fault", len(data)))

    def test_changed_data(self):
        decoded = 0
        for state in ((1, ((), (), ())), (5, ((2, 4), (1,), (3,))), (300, ((2, 299), (1,), ()))):
            data = encode_state(SMALL, state)
            for changed in changes_of(data):
                self.assertEqual(self.check_state_data(SMALL, changed)[0], "fault")
            for changed in changes_of(data[:-2]):
                decoded += self.check_state_data(SMALL, sealed(list(changed)))[0] != "fault"
        self.assertGreater(decoded, 500)

    def test_data_that_are_changed_twice(self):
        chooser = random.Random(216)
        found = {"fault": 0}
        for network, state in random_cases(217, 3000, 4, 4):
            numbers = list(encode_state(network, state)[:-2])
            for _ in range(2):
                at = chooser.randrange(len(numbers))
                numbers[at:at + chooser.randrange(2)] = chooser.choice(
                    [[], [0], [1], [2], [3], [128], [128, 0], [numbers[at]] * 2, [chooser.randrange(256)]])
            data = sealed(numbers) if chooser.random() < 0.8 else bytes(numbers + [0, 0])
            kind = "fault" if self.check_state_data(network, data)[0] == "fault" else "state"
            found[kind] = found.get(kind, 0) + 1
        self.assertGreater(min(found.values()), 30)

    def test_each_fault(self):
        network = (("a", "b", "c"), ("d", "e"))
        good = [83, 9, 2, 1, 8, 1, 3]
        self.assertEqual(self.check_state_data(network, sealed(good)), (9, ((8, 1), (6,))))
        for value in (0, 78, 82, 84, 255):
            self.check_state_fault(network, [value] + good[1:], 0)
        self.check_state_fault(network, [83, 0] + good[2:], 1)
        for value in (3, 4, 128, 255):
            self.check_state_fault(network, [83, 9, value] + good[3:], 2)
        for value in (2, 3, 128, 255):
            self.check_state_fault(network, good[:5] + [value] + good[6:], 5)
        # Passengers 9, 0, -1, and ones who wait already.
        self.check_state_fault(network, [83, 9, 2, 0, 8, 1, 3], 3)
        self.check_state_fault(network, [83, 9, 2, 9, 8, 1, 3], 3)
        self.check_state_fault(network, [83, 9, 2, 1, 10, 1, 3], 4)
        self.check_state_fault(network, [83, 9, 2, 1, 8, 1, 129, 1], 6)
        self.check_state_fault(network, [83, 9, 2, 5, 5, 1, 3], 4)
        self.check_state_fault(network, [83, 9, 2, 1, 8, 1, 8], 6)
        self.check_state_fault(network, [83, 128, 1, 2, 1, 127, 1, 128, 1], 7)
        self.check_state_fault(network, [83, 1, 1, 1, 0], 3)
        # The last one of several groups is 0.
        self.check_state_fault(network, [83, 137, 0] + good[2:], 2)
        self.check_state_fault(network, [83, 128, 0] + good[2:], 2)
        self.check_state_fault(network, [83, 9, 2, 129, 128, 0, 8, 1, 3], 5)
        # A length is a byte and no number.
        self.check_state_fault(network, [83, 9, 129, 1], 2)

    def test_wrong_checksums(self):
        state = (5, ((2, 4), (1,), (3,)))
        data = encode_state(SMALL, state)
        for value in range(256):
            wanted = state if value == data[-2] else ("fault", len(data) - 2)
            self.assertEqual(self.check_state_data(SMALL, data[:-2] + bytes([value, data[-1]])), wanted)
            wanted = state if value == data[-1] else ("fault", len(data) - 1)
            self.assertEqual(self.check_state_data(SMALL, data[:-1] + bytes([value])), wanted)

    def test_the_first_of_two_faults(self):
        network = (("a", "b", "c"), ("d", "e"))
        self.check_state_fault(network, [84, 0], 0)
        self.check_state_fault(network, [83, 0, 9], 1)
        self.check_state_fault(network, [83, 128, 0, 9], 2)
        self.check_state_fault(network, [83, 9, 3, 0], 2)
        self.check_state_fault(network, [83, 9, 1, 0, 2], 3)
        # A number is read whole before it is checked.
        self.check_state_fault(network, [83, 9, 2, 138, 0], 4)
        self.assertEqual(self.check_state_data(network, bytes([83, 9, 2, 255])), ("fault", 4))
        self.assertEqual(self.check_state_data(network, bytes([83, 128])), ("fault", 2))

    def test_data_of_another_network(self):
        data = encode_state(SMALL, (5, ((2, 4), (1,), (3,))))
        self.assertEqual(self.check_state_data((("a",) * 3,), data)[0], "fault")
        self.assertEqual(self.check_state_data((("a",) * 2,), data), ("fault", 2))
        self.assertEqual(self.check_state_data((("a",) * 3,) * 4, data)[0], "fault")
        self.assertEqual(self.check_state_data((("a",) * 8,) * 3, data), (5, ((2, 4), (1,), (3,))))

    def test_order_of_the_errors(self):
        for function, argument in ((encode_state, (0, ())), (decode_state, b"")):
            with self.assertRaises(InvalidNetwork) as caught:
                function(BAD_NETWORK, argument)
            self.assertEqual((caught.exception.station, caught.exception.seat), (1, 1))
        for state in ((0, ((), (), ())), (1, ((),)), (3, ((3,), (), ())), (3, ((1,), (1,), ())), (5, ((1, 2, 3), (), ()))):
            with self.assertRaises(InvalidState):
                encode_state(SMALL, state)

    def test_repeated_calls(self):
        state = (5, ((2, 4), (1,), (3,)))
        for _ in range(2):
            data = encode_state(SMALL, state)
            self.assertEqual(decode_state(SMALL, data), state)
            self.assertEqual(self.check_state_data(SMALL, data[:-1]), ("fault", len(data) - 1))
            self.assertEqual(decode_network(encode_network(SMALL)), SMALL)
            self.assertEqual(self.check_network_data(b"N"), ("fault", 1))


if __name__ == "__main__":
    unittest.main()
