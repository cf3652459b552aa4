"""Who waits after many arrivals, and who travels in a boat or reaches a port, and when."""

from fullboats.checks import MAX_COUNT, check_count, check_station
from fullboats.networks import ports, reachable_stations
from fullboats.states import check_state
from fullboats.timetables import Timetable


def advance(network, state, count):
    """Return the state after some arrivals."""
    check_state(network, state)
    check_count(count, 0, MAX_COUNT)
    table = Timetable(network, state)
    queues = []
    for station in range(len(network)):
        queues.append(tuple([table.passenger(at, number) for at, number in table.labels(station, count)]))
    return (state[0] + count, tuple(queues))


def boat(network, state, station, number):
    """Return (passengers, time) of a boat, or None if the station cannot be reached."""
    check_state(network, state)
    check_station(network, station)
    check_count(number, 1, MAX_COUNT)
    if station not in reachable_stations(network):
        return None
    table = Timetable(network, state)
    return table.boat_passengers(station, number), table.departure_time(station, number)


def finisher(network, state, port, number):
    """Return (passenger, time) of who reaches a port with a number, or None if it cannot be reached."""
    check_state(network, state)
    check_count(number, 1, MAX_COUNT)
    if port not in ports(network):
        return None
    table = Timetable(network, state)
    return table.passenger(port, number), table.time_of(port, number)
