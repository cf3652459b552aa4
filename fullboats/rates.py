"""Periods, shares and averages, and rates that certify how many passengers reach a port."""

from math import lcm

from fullboats.checks import MAX_COUNT, check_count
from fullboats.errors import InvalidLengths, InvalidRates
from fullboats.networks import check_network, ports
from fullboats.ratios import ONE, ZERO, add, divide, is_fraction, is_integer, multiply, total


def period(network):
    """Return the smallest positive number of arrivals that brings back all lengths of reachable queues."""
    check_network(network)
    # Lengths are back when each station has sent as many boats as on the average, so this must be whole.
    arrivals = 1
    for _, boats in list_averages(network):
        arrivals = lcm(arrivals, boats[1])
    return arrivals


def shares(network):
    """Return the dict of the shares of all passengers that reach the ports that can be reached."""
    result = {port: ZERO for port in ports(network)}
    for seats, (_, boats) in zip(network, list_averages(network)):
        for place in seats:
            if place in result:
                result[place] = add(result[place], boats)
    return result


def average_boats(network):
    """Return the average number of boats that a passenger takes."""
    check_network(network)
    return total([visitors for visitors, _ in list_averages(network)])


def make_rates(network, port):
    """Return the valid rates for a port."""
    check_network(network)
    rates = [ZERO] * len(network)
    # Seats lead to later stations only, whose rates are made first.
    for station in reversed(range(len(network))):
        rates[station] = divide(sum_values(network, port, rates, station), len(network[station]))
    return tuple(rates)


def check_rates(network, port, rates):
    """Return None if rates are valid for a port, otherwise the first station whose equation does not hold."""
    check_network(network)
    if not isinstance(rates, tuple) or len(rates) != len(network):
        raise InvalidRates("there is not one rate for each station")
    for rate in rates:
        if not is_fraction(rate):
            raise InvalidRates("a rate is not a fraction")
    for station, seats in enumerate(network):
        if sum_values(network, port, rates, station) != multiply(rates[station], len(seats)):
            return station
    return None


def count_by_rates(network, port, rates, before, after, count):
    """Return how many passengers reach a port by the rule for rates, as a fraction."""
    if check_rates(network, port, rates) is not None:
        raise InvalidRates("the rates are not valid")
    check_lengths(network, before)
    check_lengths(network, after)
    check_count(count, 0, MAX_COUNT)
    passengers = multiply(rates[0], count)
    for rate, old, new in zip(rates, before, after):
        passengers = add(passengers, multiply(rate, old - new))
    return passengers


def max_deviation(network, port):
    """Return the bound on the difference of a port's count from arrivals times the rate of station 0."""
    rates = make_rates(network, port)
    return total([multiply(rate, len(seats) - 1) for rate, seats in zip(rates, network)])


def check_lengths(network, lengths):
    """Raise InvalidLengths unless there is a possible queue length for each station."""
    if not isinstance(lengths, tuple) or len(lengths) != len(network):
        raise InvalidLengths("there is not one length for each station")
    for length, seats in zip(lengths, network):
        if not is_integer(length) or not 0 <= length < len(seats):
            raise InvalidLengths("a length is not possible")


def sum_values(network, port, rates, station):
    """Return the sum of the values of a station's seats, by the rates of the stations to which they lead."""
    values = []
    for place in network[station]:
        if not isinstance(place, str):
            values.append(rates[place])
        elif place == port:
            values.append(ONE)
    return total(values)


def list_averages(network):
    """Return for each station the average numbers of (visitors, boats) for one arrival."""
    visitors = [ONE] + [ZERO] * (len(network) - 1)
    averages = []
    for station, seats in enumerate(network):
        boats = divide(visitors[station], len(seats))
        averages.append((visitors[station], boats))
        for place in seats:
            if not isinstance(place, str):
                visitors[place] = add(visitors[place], boats)
    return averages
