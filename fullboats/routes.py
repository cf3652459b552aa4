"""Which boats a passenger takes, where a passenger is, and who shares boats with whom."""

from fullboats.checks import MAX_COUNT, check_count
from fullboats.errors import UnknownPassenger
from fullboats.networks import reachable_stations
from fullboats.states import check_state
from fullboats.timetables import Timetable


def route(network, state, passenger):
    """Return (legs, port, number): the boats that a passenger takes, and the passenger's finish."""
    check_state(network, state)
    return follow(Timetable(network, state), find_label(state, passenger))


def locate(network, state, passenger, count):
    """Return where a passenger is after some arrivals."""
    check_state(network, state)
    station, number = find_label(state, passenger)
    check_count(count, 0, MAX_COUNT)
    # Only at station 0 may somebody have a number above 0 who has not arrived.
    if number > count:
        return ("outside",)
    legs, port, port_number = follow(Timetable(network, state), (station, number))
    for at, _, seat, time in legs:
        if time > count:
            # Nobody leaves a queue before the boat departs, so the seat is the position.
            return ("queue", at, seat)
    if port is None:
        return ("queue", station, state[1][station].index(passenger))
    return ("port", port, port_number)


def companions(network, state, passenger):
    """Return the list of (passenger, shared boats) of all others who share a boat with a passenger."""
    check_state(network, state)
    table = Timetable(network, state)
    legs, _, _ = follow(table, find_label(state, passenger))
    shared = {}
    for station, boat_number, _, _ in legs:
        for other in table.boat_passengers(station, boat_number):
            if other != passenger:
                shared[other] = shared.get(other, 0) + 1
    return sorted(shared.items())


def shared_boats(network, state, one, other):
    """Return the list of (station, boat number) of all boats that two passengers share."""
    check_state(network, state)
    labels = [find_label(state, passenger) for passenger in (one, other)]
    table = Timetable(network, state)
    ours, theirs = [list_boats(table, label) for label in labels]
    # A boat departs before all later boats of its passengers, so the route's order is the one asked for.
    return [place for place in ours if place in theirs]


def find_label(state, passenger):
    """Return the label with which a passenger waits or will arrive, or raise UnknownPassenger."""
    next_passenger, queues = state
    for station, queue in enumerate(queues):
        if passenger in queue:
            return (station, queue.index(passenger) - len(queue) + 1)
    if not next_passenger <= passenger <= next_passenger + MAX_COUNT:
        raise UnknownPassenger("the passenger neither waits nor arrives")
    return (0, passenger - next_passenger + 1)


def list_boats(table, label):
    """Return the list of (station, boat number) of all boats of the passenger with a label."""
    legs, _, _ = follow(table, label)
    return [(station, boat_number) for station, boat_number, _, _ in legs]


def follow(table, label):
    """Return (legs, port, number) of the passenger with a label, from there on."""
    legs = []
    place, number = label
    if place not in reachable_stations(table.network):
        return legs, None, None
    while not isinstance(place, str):
        ridden, place, number = ride(table, (place, number))
        legs.extend(ridden)
    return legs, place, number


def ride(table, label):
    """Return (legs, place, number): the boats of the arrival at which a label's boat departs, and what is next."""
    station, number = label
    boat_number = (number + table.lengths[station] - 1) // len(table.network[station]) + 1
    time = table.departure_time(station, boat_number)
    arrival = table.arrival_at(time)
    departed = list(table.boats_by(time - 1))
    legs = []
    place = station
    for at, passengers in arrival.events:
        if not isinstance(at, str):
            departed[at] += 1
            if label in passengers:
                seat = passengers.index(label)
                legs.append((at, departed[at], seat, time))
                place = table.network[at][seat]
    line = arrival.line(place)
    return legs, place, table.joined_by(place, time) - len(line) + line.index(label) + 1
