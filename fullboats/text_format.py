"""Networks and states as text."""

from fullboats.errors import InvalidText
from fullboats.networks import check_network, is_letters
from fullboats.states import check_state

MAX_DIGITS = 2
# Python converts only numbers of some thousand digits at once, so longer ones are converted by groups of digits.
GROUP_DIGITS = 64
GROUP = 10 ** 64


def format_network(network):
    """Return the text of a network, one line per station."""
    check_network(network)
    return "\n".join([join_words(seats) for seats in network])


def parse_network(text):
    """Return the network of a text, or raise InvalidText, then InvalidNetwork."""
    stations = []
    for row, line in enumerate(text.split("\n")):
        stations.append(tuple([parse_place(word, row) for word in line.split(" ")]))
    network = tuple(stations)
    check_network(network)
    return network


def format_state(network, state):
    """Return the text of a state: the next passenger, then one line per station."""
    check_state(network, state)
    next_passenger, queues = state
    lines = [("next", next_passenger)] + [("queue",) + queue for queue in queues]
    return "\n".join([join_words(line) for line in lines])


def parse_state(network, text):
    """Return the state of a text, or raise InvalidNetwork, InvalidText, then InvalidState."""
    check_network(network)
    lines = text.split("\n")
    passengers = []
    for row in range(1 + len(network)):
        # A line that is missing is at fault where it would stand.
        if row == len(lines):
            raise InvalidText(row)
        passengers.append(parse_passengers(lines[row], row))
    if len(lines) > 1 + len(network):
        raise InvalidText(1 + len(network))
    state = (passengers[0][0], tuple(passengers[1:]))
    check_state(network, state)
    return state


def join_words(values):
    """Return the line of words and numbers."""
    return " ".join([value if isinstance(value, str) else format_number(value) for value in values])


def parse_place(word, row):
    """Return the place of a word of a network's text, or raise InvalidText."""
    if is_letters(word):
        return word
    if not is_number(word) or len(word) > MAX_DIGITS:
        raise InvalidText(row)
    return int(word)


def parse_passengers(line, row):
    """Return the tuple of the passengers in a line of a state's text, or raise InvalidText."""
    word, *numbers = line.split(" ")
    if word != ("next" if row == 0 else "queue") or (row == 0 and len(numbers) != 1):
        raise InvalidText(row)
    # 0 is a number, too, though no passenger's: that makes the state invalid, not the line.
    if not all([is_number(number) for number in numbers]):
        raise InvalidText(row)
    return tuple([parse_number(number) for number in numbers])


def format_number(number):
    """Return the digits of a number from 0 on, however many there are."""
    groups = []
    while number >= GROUP:
        number, group = divmod(number, GROUP)
        groups.append(str(group).zfill(GROUP_DIGITS))
    groups.append(str(number))
    return "".join(groups[::-1])


def parse_number(digits):
    """Return the number of one or more digits, however many there are."""
    number = 0
    worth = 1
    for end in range(len(digits), 0, -GROUP_DIGITS):
        number += int(digits[max(0, end - GROUP_DIGITS):end]) * worth
        worth *= GROUP
    return number


def is_number(word):
    """Tell whether a word is a number without leading zeros."""
    if len(word) == 0 or not all(["0" <= digit <= "9" for digit in word]):
        return False
    return word == "0" or word[0] != "0"
