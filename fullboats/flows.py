"""How many boats depart and how many passengers move on, without asking who they are.

Who fills a boat does not matter for the numbers: each boat brings one passenger to the place of
each of its seats. So the stations are reckoned one after another, however many arrivals there are.
"""


def find_feeders(network):
    """Return a dict from each station and port to a dict from each station that leads there to its seats' number."""
    feeders = {station: {} for station in range(len(network))}
    for station, seats in enumerate(network):
        for place in seats:
            sources = feeders.setdefault(place, {})
            sources[station] = sources.get(station, 0) + 1
    return feeders


def count_brought(sources, boats):
    """Return how many passengers some numbers of boats bring to a place that has these feeders."""
    return sum([seats * boats[station] for station, seats in sources.items()])


def count_departures(network, feeders, lengths, arrivals):
    """Return the list of the numbers of boats that depart from each station, from some queue lengths on."""
    boats = []
    for station, seats in enumerate(network):
        joined = arrivals if station == 0 else count_brought(feeders[station], boats)
        boats.append((lengths[station] + joined) // len(seats))
    return boats
