"""The parts of encodings: numbers, words and checksums, as lists of bytes."""

from fullboats.errors import InvalidData
from fullboats.networks import MAX_LETTERS

ALPHABET = "abcdefghijklmnopqrstuvwxyz"
FIRST_LETTER = 97
GROUP_BITS = 7
# Added to each group of a number that another one follows.
MORE = 128
MODULUS = 65521


def encode_number(number):
    """Return the groups of a number from 0 on, low ones first."""
    groups = []
    while number >= MORE:
        groups.append(MORE + (number & (MORE - 1)))
        number = number >> GROUP_BITS
    groups.append(number)
    return groups


def encode_word(word):
    """Return the length and the letters of a word."""
    return [len(word)] + [FIRST_LETTER + ALPHABET.index(letter) for letter in word]


def encode_checksum(numbers):
    """Return the two bytes of the checksum of some bytes."""
    checksum = 1
    for number in numbers:
        _, checksum = divmod(31 * checksum + number, MODULUS)
    return list(divmod(checksum, 256))


class Reader:
    """Reads bytes from left to right, and raises InvalidData at the first one that is at fault."""

    def __init__(self, data):
        self.data = data
        self.at = 0

    def at_end(self):
        """Tell whether all bytes are read."""
        return self.at == len(self.data)

    def starts_with(self, byte):
        """Tell whether the byte that is read next is this one."""
        return not self.at_end() and self.data[self.at] == byte

    def read_byte(self):
        """Read a byte and return it."""
        if self.at_end():
            raise InvalidData(self.at)
        byte = self.data[self.at]
        self.at += 1
        return byte

    def read_byte_between(self, least, most):
        """Read a byte that must be in a range, ends included, and return it."""
        start = self.at
        byte = self.read_byte()
        if not least <= byte <= most:
            raise InvalidData(start)
        return byte

    def skip_byte(self, byte):
        """Read a byte that must be this one."""
        self.read_byte_between(byte, byte)

    def read_number(self):
        """Read a number and return it."""
        number = 0
        bits = 0
        group = self.read_byte()
        while group >= MORE:
            number += (group - MORE) << bits
            bits += GROUP_BITS
            group = self.read_byte()
        if group == 0 and bits > 0:
            raise InvalidData(self.at - 1)
        return number + (group << bits)

    def read_word(self):
        """Read a word and return it."""
        length = self.read_byte_between(1, MAX_LETTERS)
        word = ""
        for _ in range(length):
            word += ALPHABET[self.read_byte_between(FIRST_LETTER, FIRST_LETTER + len(ALPHABET) - 1) - FIRST_LETTER]
        return word

    def read_bytes(self, count):
        """Read so many bytes and return them."""
        if count > len(self.data) - self.at:
            raise InvalidData(len(self.data))
        start = self.at
        self.at += count
        return self.data[start:self.at]

    def skip_checksum(self, start):
        """Read a checksum, which must be the one of the bytes from a start on."""
        checksum = encode_checksum(self.data[start:self.at])
        for byte in checksum:
            self.skip_byte(byte)

    def skip_end(self):
        """Make sure that nothing is left to read."""
        if not self.at_end():
            raise InvalidData(self.at)
