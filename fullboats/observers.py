"""What observers can conclude about the queues at the beginning."""

from fullboats.checks import MAX_COUNT, check_count, check_station
from fullboats.cycles import Cycle
from fullboats.errors import Contradiction, InvalidPassengers, TooManyCandidates, UnknownPort
from fullboats.networks import check_network, ports
from fullboats.rates import period

MAX_CANDIDATES = 1000
MAX_NUMBER = 10 ** 6
MAX_LIMIT = 50


class Observer:
    """Knows a network, but not the lengths of the queues at the beginning."""

    def __init__(self, network):
        check_network(network)
        self.network = network
        self.known_ports = ports(network)
        self.remaining = list_lengths(network)
        self.phases = find_phases(network, self.remaining)
        self.observations = []

    def see_boat(self, station, number, passengers):
        """Record the passengers of a boat, and return how many candidates remain."""
        check_station(self.network, station)
        check_count(number, 1, MAX_NUMBER)
        if len(passengers) != len(self.network[station]):
            raise InvalidPassengers("there is not one passenger for each seat")
        check_passengers(passengers)
        agreeing = []
        for candidate, row in self.list_rows(station, number):
            if row is not None and row[0] == passengers:
                agreeing.append(candidate)
        return self.accept(agreeing, ("see_boat", station, number, passengers))

    def see_departure(self, station, number, time):
        """Record the time at which a boat departs, and return how many candidates remain."""
        check_station(self.network, station)
        check_count(number, 1, MAX_NUMBER)
        check_count(time, 0, MAX_COUNT)
        agreeing = []
        for candidate, row in self.list_rows(station, number):
            if row is not None and row[1] == time:
                agreeing.append(candidate)
        return self.accept(agreeing, ("see_departure", station, number, time))

    def see_finisher(self, port, number, passenger):
        """Record who reaches a port with a number, and return how many candidates remain."""
        self.check_port(port)
        check_count(number, 1, MAX_NUMBER)
        check_passengers((passenger,))
        finishers = self.list_finishers(port, number)
        agreeing = [candidate for candidate, found in finishers if found == passenger]
        return self.accept(agreeing, ("see_finisher", port, number, passenger))

    def candidates(self):
        """Return the list of all remaining candidates, ascending."""
        return list(self.remaining)

    def certain_lengths(self):
        """Return the length of each queue if all candidates agree on it, None otherwise."""
        lengths = []
        for station, length in enumerate(self.remaining[0]):
            agreed = all([candidate[station] == length for candidate in self.remaining])
            lengths.append(length if agreed else None)
        return tuple(lengths)

    def possible_finishers(self, port, number):
        """Return the ascending list of all who can be the one that reaches a port with a number."""
        self.check_port(port)
        check_count(number, 1, MAX_NUMBER)
        return sorted(set([found for _, found in self.list_finishers(port, number)]))

    def best_number(self, port, limit):
        """Return the first number of a finisher whose observation surely leaves the fewest candidates."""
        self.check_port(port)
        check_count(limit, 1, MAX_LIMIT)
        # A smallest value has the first place among equal ones by the number behind it.
        return min([(self.count_agreeing(port, number), number) for number in range(1, limit + 1)])[1]

    def history(self):
        """Return the list of all accepted observations, as tuples of the method's name and its arguments."""
        return list(self.observations)

    def check_port(self, port):
        """Raise UnknownPort unless a port can be reached."""
        if port not in self.known_ports:
            raise UnknownPort("the port cannot be reached")

    def list_rows(self, place, number):
        """Return the list of (candidate, row) for a boat or a finisher; a row is one of a cycle."""
        rows = []
        for candidate in self.remaining:
            cycle, phase = self.phases[candidate]
            rows.append((candidate, cycle.row(phase, place, number)))
        return rows

    def list_finishers(self, port, number):
        """Return the list of (candidate, passenger) for the one who reaches a port with a number."""
        return [(candidate, row[0][0]) for candidate, row in self.list_rows(port, number)]

    def count_agreeing(self, port, number):
        """Return the largest number of candidates that agree on a finisher."""
        counts = {}
        for _, found in self.list_finishers(port, number):
            counts[found] = counts.get(found, 0) + 1
        return max(counts.values())

    def accept(self, agreeing, observation):
        """Let those candidates remain that agree with an observation, and return their number."""
        if len(agreeing) == 0:
            raise Contradiction("no candidate agrees")
        self.remaining = agreeing
        self.observations.append(observation)
        return len(agreeing)


def check_passengers(passengers):
    """Raise InvalidPassengers if one of some passengers has a negative number."""
    if min(passengers) < 0:
        raise InvalidPassengers("a passenger is negative")


def list_lengths(network):
    """Return the ascending list of all tuples of queue lengths, or raise TooManyCandidates."""
    candidates = [()]
    for seats in network:
        candidates = [lengths + (length,) for lengths in candidates for length in range(len(seats))]
        if len(candidates) > MAX_CANDIDATES:
            raise TooManyCandidates(f"there are more than {MAX_CANDIDATES} candidates")
    return candidates


def find_phases(network, candidates):
    """Return a dict from each candidate to the (cycle, phase) at which the queues are as long."""
    arrivals = period(network)
    phases = {}
    for candidate in candidates:
        if candidate not in phases:
            cycle = Cycle(network, candidate, arrivals)
            for phase, lengths in enumerate(cycle.lengths_at):
                phases[lengths] = (cycle, phase)
    return phases
