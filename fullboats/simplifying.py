"""Simpler networks, and where two networks differ."""

from fullboats.checks import check_count
from fullboats.networks import reachable_stations
from fullboats.states import check_state, join_queue, list_finished

MAX_COMPARED = 2000


def simplify(network, state):
    """Return an equivalent (network, state) without stations that are of no use."""
    check_state(network, state)
    kept = [station for station in reachable_stations(network) if station == 0 or len(network[station]) > 1]
    numbers = {station: number for number, station in enumerate(kept)}
    stations = []
    for station in kept:
        stations.append(tuple([find_place(network, numbers, place) for place in network[station]]))
    return tuple(stations), (state[0], tuple([state[1][station] for station in kept]))


def find_place(network, numbers, place):
    """Return the place to which a seat leads if only those stations are kept that have new numbers."""
    while not isinstance(place, str):
        if place in numbers:
            return numbers[place]
        place = network[place][0]
    return place


def first_difference(network, state, other_network, other_state, count):
    """Return the number of the first arrival at which others finish in the other network, or None."""
    check_state(network, state)
    check_state(other_network, other_state)
    check_count(count, 0, MAX_COMPARED)
    queues = list(state[1])
    other_queues = list(other_state[1])
    for arrival in range(count):
        finished = let_arrive(network, queues, state[0] + arrival)
        if finished != let_arrive(other_network, other_queues, other_state[0] + arrival):
            return arrival + 1
    return None


def let_arrive(network, queues, passenger):
    """Let a passenger arrive, which changes the list of queues, and return who finishes."""
    events = []
    join_queue(network, queues, 0, passenger, events)
    return list_finished(events)
