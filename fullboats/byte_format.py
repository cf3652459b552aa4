"""Networks and states as bytes."""

from fullboats.byte_parts import Reader, encode_checksum, encode_number, encode_word
from fullboats.checks import check_count
from fullboats.errors import InvalidData
from fullboats.networks import MAX_SEATS, MAX_STATIONS, check_network
from fullboats.states import check_state

NETWORK_MARK = 78
STATE_MARK = 83


def pack_bytes(numbers):
    """Return the bytes of a list or a tuple of integers from 0 to 255."""
    for number in numbers:
        check_count(number, 0, 255)
    return bytes(numbers)


def unpack_bytes(data):
    """Return the list of the integers of bytes."""
    return list(data)


def encode_network(network):
    """Return the encoding of a network."""
    check_network(network)
    names = list_ports(network)
    numbers = [NETWORK_MARK, len(network)] + encode_number(len(names))
    for name in names:
        numbers.extend(encode_word(name))
    for station, seats in enumerate(network):
        numbers.append(len(seats))
        for place in seats:
            numbers.extend(encode_number(number_place(place, station, names)))
    return bytes(numbers + encode_checksum(numbers))


def list_ports(network):
    """Return the list of all ports of a network, in the order in which seats first lead to them."""
    names = {}
    for seats in network:
        for place in seats:
            if isinstance(place, str):
                names[place] = True
    return list(names)


def number_place(place, station, names):
    """Return the number of a seat of a station that leads to a place."""
    if isinstance(place, str):
        return 2 * names.index(place)
    return 2 * (place - station) - 1


def decode_network(data):
    """Return the network of an encoding, or raise InvalidData."""
    reader = Reader(data)
    network = read_network(reader)
    reader.skip_end()
    return network


def read_network(reader):
    """Read an encoded network, checksum included, from the beginning of data, and return it."""
    reader.skip_byte(NETWORK_MARK)
    stations = reader.read_byte_between(1, MAX_STATIONS)
    names = read_ports(reader)
    network = []
    used = 0
    for station in range(stations):
        seats = []
        for _ in range(reader.read_byte_between(1, MAX_SEATS)):
            place = read_place(reader, station, stations, names[:used + 1])
            if names[used:used + 1] == [place]:
                used += 1
            seats.append(place)
        network.append(tuple(seats))
    if used < len(names):
        raise InvalidData(reader.at)
    reader.skip_checksum(0)
    return tuple(network)


def read_ports(reader):
    """Read the list of the ports of a network, and return it."""
    names = []
    for _ in range(reader.read_number()):
        start = reader.at
        name = reader.read_word()
        if name in names:
            raise InvalidData(start)
        names.append(name)
    return names


def read_place(reader, station, stations, names):
    """Read the place of a seat, which must be a later station or one of these ports, and return it."""
    start = reader.at
    half, odd = divmod(reader.read_number(), 2)
    if odd == 0 and half < len(names):
        return names[half]
    place = station + half + 1
    if odd == 0 or place >= stations:
        raise InvalidData(start)
    return place


def encode_state(network, state):
    """Return the encoding of a state."""
    check_state(network, state)
    next_passenger, queues = state
    numbers = [STATE_MARK] + encode_number(next_passenger)
    for queue in queues:
        numbers.append(len(queue))
        for passenger in queue:
            numbers.extend(encode_number(next_passenger - passenger))
    return bytes(numbers + encode_checksum(numbers))


def decode_state(network, data):
    """Return the state of an encoding, or raise InvalidNetwork, then InvalidData."""
    check_network(network)
    reader = Reader(data)
    reader.skip_byte(STATE_MARK)
    start = reader.at
    next_passenger = reader.read_number()
    if next_passenger == 0:
        raise InvalidData(start)
    waiting = {}
    queues = []
    for seats in network:
        queue = []
        for _ in range(reader.read_byte_between(0, len(seats) - 1)):
            queue.append(read_passenger(reader, next_passenger, waiting))
        queues.append(tuple(queue))
    reader.skip_checksum(0)
    reader.skip_end()
    return (next_passenger, tuple(queues))


def read_passenger(reader, next_passenger, waiting):
    """Read a passenger who is not yet in the dict of those who wait, add and return this one."""
    start = reader.at
    passenger = next_passenger - reader.read_number()
    if not 1 <= passenger < next_passenger or passenger in waiting:
        raise InvalidData(start)
    waiting[passenger] = True
    return passenger
