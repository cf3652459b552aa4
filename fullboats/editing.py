"""Changes of states and networks: early departures, passengers who leave, other places of seats."""

from fullboats.checks import check_station
from fullboats.errors import EmptyBoat, UnknownPassenger, UnknownSeat
from fullboats.networks import check_network
from fullboats.states import check_state, depart, list_finished


def send_early(network, state, station):
    """Return (state, finished) after a station's boat departs with those who wait there."""
    check_state(network, state)
    return send_boat(network, state, station)


def leave(network, state, passenger):
    """Return the state in which a passenger has left a queue."""
    check_state(network, state)
    return remove_passenger(state, passenger)


def replace_seat(network, station, seat, place):
    """Return the network in which a seat leads to another place."""
    check_network(network)
    return change_seat(network, station, seat, place)


# The following functions do the same with networks and states that are known to be valid.


def send_boat(network, state, station):
    """Return (state, finished) after a boat departs early."""
    check_station(network, station)
    queues = list(state[1])
    if len(queues[station]) == 0:
        raise EmptyBoat("nobody waits at the station")
    events = []
    depart(network, queues, station, events)
    return (state[0], tuple(queues)), list_finished(events)


def remove_passenger(state, passenger):
    """Return the state in which a passenger has left a queue."""
    next_passenger, queues = state
    if not any([passenger in queue for queue in queues]):
        raise UnknownPassenger("the passenger does not wait")
    left = [tuple([other for other in queue if other != passenger]) for queue in queues]
    return (next_passenger, tuple(left))


def change_seat(network, station, seat, place):
    """Return the network in which a seat leads to another place."""
    check_station(network, station)
    seats = list(network[station])
    if not 0 <= seat < len(seats):
        raise UnknownSeat("the station has no seat of this number")
    seats[seat] = place
    changed = network[:station] + (tuple(seats),) + network[station + 1:]
    check_network(changed)
    return changed
