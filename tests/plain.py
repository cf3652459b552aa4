"""What the tests of several files share: a plain run of arrivals, one after another, and networks to run.

The plain run does what the document says by a list of moves still to be made, and records everything.
"""

import random

SMALL = ((1, "a", 1), (2, "b"), ("c", "b"))
EMPTY = (1, ((), (), ()))


def chain(stations):
    """Return a network in which each station leads to the next one, and the last one to a port."""
    return tuple((station + 1,) for station in range(stations - 1)) + (("end",),)


def random_network(chooser, most_stations, most_seats=4, fewest_stations=1):
    """Return a network that often leads on, so that boats fill other boats."""
    stations = chooser.randint(fewest_stations, most_stations)
    network = []
    for station in range(stations):
        places = ["a", "b", "c"] + 2 * list(range(station + 1, min(station + 4, stations)))
        network.append(tuple(chooser.choice(places) for _ in range(chooser.randint(1, most_seats))))
    return tuple(network)


def random_state(chooser, network):
    """Return a state in which passengers of any numbers wait in any order, also where nobody gets."""
    lengths = [chooser.randrange(len(seats)) for seats in network]
    next_passenger = sum(lengths) + chooser.randint(1, 20)
    waiting = chooser.sample(range(1, next_passenger), sum(lengths))
    queues = tuple(tuple(waiting.pop() for _ in range(length)) for length in lengths)
    return (next_passenger, queues)


def random_cases(seed, many, most_stations=8, most_seats=4):
    """Yield many (network, state)."""
    chooser = random.Random(seed)
    for _ in range(many):
        network = random_network(chooser, most_stations, most_seats)
        yield network, random_state(chooser, network)


class PlainRun:
    """A run of arrivals. Passengers and boats are numbered, and times told, as in the document."""

    def __init__(self, network, state):
        self.network = network
        self.next_passenger = state[0]
        self.queues = [list(queue) for queue in state[1]]
        self.time = 0
        # Station -> list of (passengers, time); port -> list of (passenger, time).
        self.boats = {station: [] for station in range(len(network))}
        self.finishers = {}
        # Passenger -> list of (station, boat number, seat, time); passenger -> (port, number, time).
        self.legs = {}
        self.ends = {}

    def arrive(self, arrivals=1):
        """Let passengers arrive; return the list of (port, passenger) who finish at the last of them."""
        finished = []
        for _ in range(arrivals):
            self.time += 1
            finished = self.move([(0, self.next_passenger)])
            self.next_passenger += 1
        return finished

    def send(self, station):
        """Let a boat depart with whoever waits there; return the list of (port, passenger) who finish."""
        return self.move(self.depart(station))

    def move(self, pending):
        finished = []
        while pending:
            place, passenger = pending.pop(0)
            if isinstance(place, str):
                finished.append((place, passenger))
                finishers = self.finishers.setdefault(place, [])
                finishers.append((passenger, self.time))
                self.ends[passenger] = (place, len(finishers), self.time)
                continue
            self.queues[place].append(passenger)
            if len(self.queues[place]) == len(self.network[place]):
                pending = self.depart(place) + pending
        return finished

    def depart(self, station):
        passengers = tuple(self.queues[station])
        self.queues[station] = []
        self.boats[station].append((passengers, self.time))
        for seat, passenger in enumerate(passengers):
            self.legs.setdefault(passenger, []).append((station, len(self.boats[station]), seat, self.time))
        return list(zip(self.network[station], passengers))

    def state(self):
        return (self.next_passenger, tuple(map(tuple, self.queues)))

    def boat_counts(self):
        return [len(self.boats[station]) for station in range(len(self.network))]

    def finished_counts(self):
        return {port: len(finishers) for port, finishers in self.finishers.items()}

    def place_of(self, passenger):
        """Return where a passenger is now, as locate does."""
        if passenger in self.ends:
            return ("port",) + self.ends[passenger][:2]
        for station, queue in enumerate(self.queues):
            if passenger in queue:
                return ("queue", station, queue.index(passenger))
        return ("outside",)


def reached_from_start(network):
    """Return the set of the stations that can be reached, by following seats one after another."""
    found, pending = set(), [0]
    while pending:
        station = pending.pop()
        if station not in found:
            found.add(station)
            pending += [place for place in network[station] if not isinstance(place, str)]
    return found


def reached_ports(network):
    return {place for station in reached_from_start(network) for place in network[station] if isinstance(place, str)}
