"""Many arrivals at once, with the state behind them and the numbers of those who finished."""

from fullboats.counting import count_finished
from fullboats.states import join_queue, list_finished
from fullboats.tracing import advance

# So few arrivals are run one by one in less time than it takes to reckon what they do.
FEW = 1000


def let_many_arrive(network, state, count):
    """Return (state, counts) after some arrivals of a valid state; counts has the passengers of each port."""
    if count > FEW:
        return advance(network, state, count), count_finished(network, state, count)
    next_passenger, before = state
    queues = list(before)
    events = []
    for passenger in range(next_passenger, next_passenger + count):
        join_queue(network, queues, 0, passenger, events)
    return (next_passenger + count, tuple(queues)), count_ports(list_finished(events))


def count_ports(finished):
    """Return the dict of the numbers of passengers of each port in a list of (port, passenger)."""
    counts = {}
    for port, _ in finished:
        counts[port] = counts.get(port, 0) + 1
    return counts


def add_counts(counts, more):
    """Return a new dict with the sums of two dicts of numbers."""
    added = dict(counts)
    for port, number in more.items():
        added[port] = added.get(port, 0) + number
    return added
