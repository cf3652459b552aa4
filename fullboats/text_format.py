"""Networks and states as text."""

from fullboats.errors import InvalidText
from fullboats.networks import check_network, is_letters
from fullboats.states import check_state

MAX_DIGITS = 2


def format_network(network):
    """Return the text of a network, one line per station."""
    check_network(network)
    return "\n".join([join_words(seats) for seats in network])


def parse_network(text):
    """Return the network of a text, or raise InvalidText, then InvalidNetwork."""
    stations = []
    for row, line in enumerate(text.split("\n")):
        stations.append(tuple([parse_place(word, row) for word in line.split(" ")]))
    network = tuple(stations)
    check_network(network)
    return network


def format_state(network, state):
    """Return the text of a state: the next passenger, then one line per station."""
    check_state(network, state)
    next_passenger, queues = state
    lines = [("next", next_passenger)] + [("queue",) + queue for queue in queues]
    return "\n".join([join_words(line) for line in lines])


def parse_state(network, text):
    """Return the state of a text, or raise InvalidNetwork, InvalidText, then InvalidState."""
    check_network(network)
    lines = text.split("\n")
    passengers = []
    for row in range(1 + len(network)):
        # A line that is missing is at fault where it would stand.
        if row == len(lines):
            raise InvalidText(row)
        passengers.append(parse_passengers(lines[row], row))
    if len(lines) > 1 + len(network):
        raise InvalidText(1 + len(network))
    state = (passengers[0][0], tuple(passengers[1:]))
    check_state(network, state)
    return state


def join_words(values):
    """Return the line of words and numbers."""
    return " ".join([str(value) for value in values])


def parse_place(word, row):
    """Return the place of a word of a network's text, or raise InvalidText."""
    if is_letters(word):
        return word
    if not is_number(word) or len(word) > MAX_DIGITS:
        raise InvalidText(row)
    return int(word)


def parse_passengers(line, row):
    """Return the tuple of the passengers in a line of a state's text, or raise InvalidText."""
    word, *numbers = line.split(" ")
    if word != ("next" if row == 0 else "queue") or (row == 0 and len(numbers) != 1):
        raise InvalidText(row)
    for number in numbers:
        # Passengers are numbered from 1 on, so 0 is no passenger's number.
        if not is_number(number) or number == "0":
            raise InvalidText(row)
    return tuple([int(number) for number in numbers])


def is_number(word):
    """Tell whether a word is a number without leading zeros."""
    if len(word) == 0 or not all(["0" <= digit <= "9" for digit in word]):
        return False
    return word == "0" or word[0] != "0"
