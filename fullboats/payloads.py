"""The calls of a dispatcher as bytes."""

from fullboats.byte_parts import encode_number, encode_word
from fullboats.checks import MAX_COUNT
from fullboats.errors import InvalidData, InvalidOperation
from fullboats.networks import MAX_SEATS, MAX_STATIONS, is_word
from fullboats.operations import PARAMETERS, is_operation
from fullboats.ratios import is_integer

LETTERS = {
    "arrivals": "a",
    "send_early": "s",
    "leave": "l",
    "replace_seat": "r",
    "checkpoint": "c",
    "restore": "b",
    "batch": "B",
    "undo": "u",
    "redo": "y",
}

# Ahead of the number of a station that is a place, where a word would have its length.
STATION_MARK = 0


def encode_call(call, index):
    """Return the payload of a call as a list of bytes, or raise InvalidOperation with its index."""
    if is_operation(call):
        return encode_operation(call, index)
    if call in (("undo",), ("redo",)):
        return [ord(LETTERS[call[0]])]
    if not is_batch(call):
        raise InvalidOperation(index)
    numbers = [ord(LETTERS["batch"])] + encode_number(len(call[1]))
    for operation in call[1]:
        if not is_operation(operation):
            raise InvalidOperation(index)
        numbers.extend(encode_operation(operation, index))
    return numbers


def is_batch(call):
    """Tell whether a call is a tuple of the name of a batch and a tuple."""
    if not isinstance(call, tuple) or len(call) != 2:
        return False
    return call[0] == "batch" and isinstance(call[1], tuple)


def encode_operation(operation, index):
    """Return the payload of an operation that is one by its form, or raise InvalidOperation with an index."""
    name = operation[0]
    numbers = [ord(LETTERS[name])]
    for kind, argument in zip(PARAMETERS[name], operation[1:]):
        if not is_argument(kind, argument):
            raise InvalidOperation(index)
        numbers.extend(encode_argument(kind, argument))
    return numbers


def is_argument(kind, argument):
    """Tell whether a value is an argument of a kind."""
    if isinstance(argument, str):
        return kind in ("name", "place") and is_word(argument)
    if kind == "name" or not is_integer(argument):
        return False
    if kind == "count":
        return 0 <= argument <= MAX_COUNT
    if kind == "passenger":
        return argument >= 1
    if kind == "seat":
        return 0 <= argument < MAX_SEATS
    return 0 <= argument < MAX_STATIONS


def encode_argument(kind, argument):
    """Return the bytes of an argument of a kind as a list."""
    if isinstance(argument, str):
        return encode_word(argument)
    if kind == "place":
        return [STATION_MARK] + encode_number(argument)
    return encode_number(argument)


def read_call(reader):
    """Read a payload to the end, and return its call, or raise InvalidData."""
    name = read_name(reader)
    if name in PARAMETERS:
        call = read_operation(reader, name)
    elif name == "batch":
        operations = []
        for _ in range(reader.read_number()):
            operations.append(read_operation(reader, read_name(reader)))
        call = (name, tuple(operations))
    else:
        call = (name,)
    reader.skip_end()
    return call


def read_name(reader):
    """Read the letter of a method, and return the method's name."""
    start = reader.at
    byte = reader.read_byte()
    for name, letter in LETTERS.items():
        if ord(letter) == byte:
            return name
    raise InvalidData(start)


def read_operation(reader, name):
    """Read the arguments of an operation that a batch may contain, and return the operation."""
    if name not in PARAMETERS:
        raise InvalidData(reader.at)
    operation = (name,)
    for kind in PARAMETERS[name]:
        operation += (read_argument(reader, kind),)
    return operation


def read_argument(reader, kind):
    """Read an argument of a kind, and return it."""
    if kind == "name":
        return reader.read_word()
    if kind == "place":
        if not reader.starts_with(STATION_MARK):
            return reader.read_word()
        reader.skip_byte(STATION_MARK)
    return reader.read_number()
