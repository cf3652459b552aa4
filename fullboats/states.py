"""States: which ones are valid, and what an arrival does to them."""

from fullboats.errors import InvalidState
from fullboats.networks import check_network


def check_state(network, state):
    """Raise InvalidNetwork, then InvalidState if the state is not one of the network."""
    check_network(network)
    next_passenger, queues = state
    if next_passenger < 1:
        raise InvalidState("the next passenger is below 1")
    if len(queues) != len(network):
        raise InvalidState("there is not one queue for each station")
    for seats, queue in zip(network, queues):
        if len(queue) >= len(seats):
            raise InvalidState("a queue is as long as its boat, or longer")
    check_passengers(next_passenger, queues)


def check_passengers(next_passenger, queues):
    """Raise InvalidState unless all waiting passengers are different and have arrived."""
    waiting = set()
    for queue in queues:
        for passenger in queue:
            if not 1 <= passenger < next_passenger:
                raise InvalidState("a passenger waits who has not arrived")
            if passenger in waiting:
                raise InvalidState("a passenger waits twice")
            waiting.add(passenger)


def initial_state(network):
    """Return the state with next passenger 1 and empty queues."""
    check_network(network)
    return (1, ((),) * len(network))


def queue_lengths(state):
    """Return the list of the lengths of all queues of a state."""
    return [len(queue) for queue in state[1]]


def arrive(network, state):
    """Return (state, finished) after one arrival."""
    check_state(network, state)
    passenger, before = state
    queues = list(before)
    events = []
    join_queue(network, queues, 0, passenger, events)
    return (passenger + 1, tuple(queues)), list_finished(events)


def list_finished(events):
    """Return the list of (port, passenger) of all who finish in a list of events."""
    return [(place, passengers[0]) for place, passengers in events if isinstance(place, str)]


def join_queue(network, queues, station, passenger, events):
    """Let a passenger join a station's queue, and its boat depart if that fills it.

    This changes the list of queues, each a tuple, and appends all that happens to events, in
    order: (station, passengers) for a boat that departs, (port, passengers) for the one passenger
    who finishes. Passengers need not be numbers here.
    """
    queues[station] = queues[station] + (passenger,)
    if len(queues[station]) == len(network[station]):
        depart(network, queues, station, events)


def depart(network, queues, station, events):
    """Let a station's boat depart with all who wait there, who take the first seats.

    This changes queues and events as join_queue does.
    """
    passengers = queues[station]
    queues[station] = ()
    events.append((station, passengers))
    # A boat that a passenger fills must be left by all before the next one leaves this boat,
    # so each passenger's move is followed to its end at once.
    for place, passenger in zip(network[station], passengers):
        if isinstance(place, str):
            events.append((place, (passenger,)))
        else:
            join_queue(network, queues, place, passenger, events)
