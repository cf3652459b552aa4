"""Networks: which ones are valid, and what can be reached in them."""

from fullboats.errors import InvalidNetwork

MAX_STATIONS = 40
MAX_SEATS = 8
MAX_LETTERS = 8


def is_letters(text):
    """Tell whether a text is letters a to z, at least one."""
    return len(text) > 0 and all(["a" <= letter <= "z" for letter in text])


def is_word(text):
    """Tell whether a text is one to eight letters a to z."""
    return len(text) <= MAX_LETTERS and is_letters(text)


def is_place(place, station, stations):
    """Tell whether a seat of a station may lead to a place, in a network of so many stations."""
    if isinstance(place, str):
        return is_word(place)
    return station < place < stations


def check_network(network):
    """Raise InvalidNetwork for the first fault, by station and then by seat."""
    if len(network) == 0:
        raise InvalidNetwork(0, -1)
    for station, seats in enumerate(network):
        # A station too many is at fault itself, whatever its seats are.
        if station == MAX_STATIONS or not 1 <= len(seats) <= MAX_SEATS:
            raise InvalidNetwork(station, -1)
        for seat, place in enumerate(seats):
            if not is_place(place, station, len(network)):
                raise InvalidNetwork(station, seat)


def reachable_stations(network):
    """Return the numbers of all stations that can be reached from station 0, ascending."""
    check_network(network)
    reached = {0}
    # Seats lead to later stations only, so one pass in ascending order finds all.
    for station, seats in enumerate(network):
        if station in reached:
            for place in seats:
                if not isinstance(place, str):
                    reached.add(place)
    return sorted(reached)


def ports(network):
    """Return the names of all ports that can be reached, ascending."""
    names = set()
    for station in reachable_stations(network):
        for place in network[station]:
            if isinstance(place, str):
                names.add(place)
    return sorted(names)
