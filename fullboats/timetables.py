"""Who moves where, and when, after any number of arrivals.

Whoever joins the queue of a station or reaches a port is numbered from 1 on there, from the given
state on; those who wait in a queue at the beginning have the numbers up to 0, the last one 0. A
label (station, number) is such a number, with the station where the passenger waits.
"""

from fullboats.flows import count_brought, count_departures, find_feeders
from fullboats.states import join_queue, queue_lengths


class Arrival:
    """What happens at one arrival, with labels of before in place of the passengers."""

    def __init__(self, network, queues, newcomer):
        self.events = []
        self.queues = queues
        join_queue(network, queues, 0, newcomer, self.events)

    def line(self, place):
        """Return the labels of all who wait at a place before, who join them, or who finish there, in order."""
        labels = []
        for at, passengers in self.events:
            if at == place:
                labels.extend(passengers)
        if not isinstance(place, str):
            labels.extend(self.queues[place])
        return labels


class Timetable:
    """What happens after a state of a network, at whatever time. Both are taken to be valid."""

    def __init__(self, network, state):
        self.network = network
        self.next_passenger = state[0]
        self.waiting = state[1]
        self.lengths = queue_lengths(state)
        self.feeders = find_feeders(network)
        self.known_boats = {}

    def boats_by(self, time):
        """Return the list of the numbers of boats that have departed by a time."""
        # Searches for different passengers ask for the same times again and again.
        if time not in self.known_boats:
            self.known_boats[time] = count_departures(self.network, self.feeders, self.lengths, time)
        return self.known_boats[time]

    def joined_by(self, place, time):
        """Return how many have joined a station's queue, or reached a port, by a time."""
        if place == 0:
            return time
        return count_brought(self.feeders[place], self.boats_by(time))

    def time_of(self, place, number):
        """Return the time at which somebody gets a number from 1 on at a place that can be reached."""
        step = 1
        while self.joined_by(place, step) < number:
            step = 2 * step
        # Times that begin with the same bits are tried for all passengers alike, so most are known.
        before = 0
        while step > 0:
            if self.joined_by(place, before + step) < number:
                before += step
            step = step // 2
        return before + 1

    def first_number(self, station, boat_number):
        """Return the number at a station of the passenger who takes the first seat of a boat."""
        return (boat_number - 1) * len(self.network[station]) - self.lengths[station] + 1

    def departure_time(self, station, boat_number):
        """Return the time at which a boat of a station that can be reached departs."""
        return self.time_of(station, self.first_number(station, boat_number + 1) - 1)

    def labels(self, station, time):
        """Return the labels of all who wait at a station at a time."""
        first = self.first_number(station, self.boats_by(time)[station] + 1)
        return tuple([(station, number) for number in range(first, self.joined_by(station, time) + 1)])

    def arrival_at(self, time):
        """Return what happens at a time from 1 on."""
        queues = [self.labels(station, time - 1) for station in range(len(self.network))]
        return Arrival(self.network, queues, (0, time))

    def source(self, place, number):
        """Return the label, before the arrival in question, of who gets a number from 1 on at a place."""
        time = self.time_of(place, number)
        line = self.arrival_at(time).line(place)
        # The last one of the line has the number of all who have come until then.
        return line[number - self.joined_by(place, time) - 1]

    def passenger(self, place, number):
        """Return the passenger who has a number at a place that can be reached, or waits there at the beginning."""
        while place != 0 and number > 0:
            place, number = self.source(place, number)
        if number > 0:
            return self.next_passenger + number - 1
        return self.waiting[place][number - 1]

    def boat_passengers(self, station, boat_number):
        """Return the passengers of a boat of a station that can be reached, in the order of the seats."""
        first = self.first_number(station, boat_number)
        return tuple([self.passenger(station, first + seat) for seat in range(len(self.network[station]))])
