"""Checks of arguments that several files share."""

from fullboats.errors import InvalidCount, UnknownStation

MAX_COUNT = 10 ** 18


def check_count(count, least, most):
    """Raise InvalidCount unless a number is in its range, ends included."""
    if not least <= count <= most:
        raise InvalidCount(f"a number is not from {least} to {most}")


def check_station(network, station):
    """Raise UnknownStation unless the network has a station of this number."""
    if not 0 <= station < len(network):
        raise UnknownStation("there is no station of this number")
