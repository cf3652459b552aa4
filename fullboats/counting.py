"""Numbers of boats and of finished passengers after many arrivals."""

from fullboats.checks import MAX_COUNT, check_count
from fullboats.flows import count_brought, count_departures, find_feeders
from fullboats.states import check_state, queue_lengths


def count_boats(network, state, count):
    """Return the list of the numbers of boats that depart from each station during some arrivals."""
    check_state(network, state)
    check_count(count, 0, MAX_COUNT)
    return count_departures(network, find_feeders(network), queue_lengths(state), count)


def count_finished(network, state, count):
    """Return the dict of the numbers of passengers who reach each port during some arrivals."""
    boats = count_boats(network, state, count)
    finished = {}
    for place, sources in find_feeders(network).items():
        passengers = count_brought(sources, boats)
        if isinstance(place, str) and passengers > 0:
            finished[place] = passengers
    return finished
