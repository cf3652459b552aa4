"""Plain encodings and decodings for the tests, made for them alone, from the words of the document."""


class PlainFault(Exception):
    """Tells the offset of the first fault."""


def number(value):
    """Return the bytes of a number, from the text of its binary digits."""
    bits = f"{value:b}"
    bits = bits.zfill(-(-len(bits) // 7) * 7)
    groups = [int(bits[start:start + 7], 2) for start in range(0, len(bits), 7)]
    return [128 + group for group in groups[:0:-1]] + [groups[0]]


def word(text):
    return [len(text)] + list(text.encode())


def checksum(numbers):
    total = 31 ** len(numbers)
    for at, value in enumerate(reversed(numbers)):
        total += value * 31 ** at
    return [total % 65521 // 256, total % 65521 % 256]


def sealed(numbers):
    """Return bytes with their checksum."""
    return bytes(numbers + checksum(numbers))


def network_bytes(network):
    ports = list(dict.fromkeys(place for seats in network for place in seats if isinstance(place, str)))
    numbers = [78, len(network)] + number(len(ports))
    for port in ports:
        numbers += word(port)
    for station, seats in enumerate(network):
        numbers.append(len(seats))
        for place in seats:
            numbers += number(2 * ports.index(place) if isinstance(place, str) else 2 * (place - station) - 1)
    return sealed(numbers)


def state_bytes(state):
    numbers = [83] + number(state[0])
    for queue in state[1]:
        numbers.append(len(queue))
        for passenger in queue:
            numbers += number(state[0] - passenger)
    return sealed(numbers)


class Tape:
    """Data that are taken from left to right."""

    def __init__(self, data):
        self.data = list(data)
        self.at = 0

    def byte(self, allowed=range(256)):
        if self.at == len(self.data) or self.data[self.at] not in allowed:
            raise PlainFault(self.at)
        self.at += 1
        return self.data[self.at - 1]

    def number(self, allowed=lambda value: True):
        start, groups = self.at, [self.byte()]
        while groups[-1] > 127:
            groups.append(self.byte())
        if len(groups) > 1 and groups[-1] == 0:
            raise PlainFault(self.at - 1)
        value = sum(group % 128 * 128 ** at for at, group in enumerate(groups))
        if not allowed(value):
            raise PlainFault(start)
        return value

    def word(self):
        return "".join(chr(self.byte(range(97, 123))) for _ in range(self.byte(range(1, 9))))

    def checksum(self, start=0):
        for value in checksum(self.data[start:self.at]):
            self.byte([value])

    def end(self):
        if self.at < len(self.data):
            raise PlainFault(self.at)


def take_network(tape):
    tape.byte([78])
    stations = tape.byte(range(1, 41))
    ports = []
    for _ in range(tape.number()):
        start = tape.at
        port = tape.word()
        if port in ports:
            raise PlainFault(start)
        ports.append(port)
    used = []
    network = []
    for station in range(stations):
        seats = []
        for _ in range(tape.byte(range(1, 9))):
            value = tape.number(lambda value: value in [2 * at for at in range(min(len(used) + 1, len(ports)))]
                                or value in [2 * (later - station) - 1 for later in range(station + 1, stations)])
            if value % 2:
                seats.append(station + (value + 1) // 2)
            else:
                seats.append(ports[value // 2])
                if ports[value // 2] not in used:
                    used.append(ports[value // 2])
        network.append(tuple(seats))
    if len(used) < len(ports):
        raise PlainFault(tape.at)
    tape.checksum()
    return tuple(network)


def network_of(data):
    """Return the network of data, or raise PlainFault."""
    tape = Tape(data)
    network = take_network(tape)
    tape.end()
    return network


def state_of(network, data):
    """Return the state of data, or raise PlainFault."""
    tape = Tape(data)
    tape.byte([83])
    following = tape.number(lambda value: value > 0)
    waiting = []
    queues = []
    for seats in network:
        queues.append([])
        for _ in range(tape.byte(range(len(seats)))):
            back = tape.number(lambda value: 0 < value < following and following - value not in waiting)
            waiting.append(following - back)
            queues[-1].append(following - back)
    tape.checksum()
    tape.end()
    return (following, tuple(map(tuple, queues)))


def changes_of(data):
    """Yield data with each byte changed to all others, removed, doubled, and with a byte ahead of it."""
    for at in range(len(data)):
        for value in range(256):
            if value != data[at]:
                yield data[:at] + bytes([value]) + data[at + 1:]
        yield data[:at] + data[at + 1:]
        for value in (0, 1, 2, 128, 255, data[at]):
            yield data[:at] + bytes([value]) + data[at:]
