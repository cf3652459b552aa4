"""The operations of a dispatcher: which ones there are, and what each of them makes of a situation."""

from fullboats.checks import MAX_COUNT, check_count
from fullboats.editing import change_seat, remove_passenger, send_boat
from fullboats.errors import InvalidName, UnknownCheckpoint
from fullboats.networks import is_word
from fullboats.progress import add_counts, count_ports, let_many_arrive
from fullboats.states import initial_state

# The kinds of the arguments of each operation that a batch may contain.
PARAMETERS = {
    "arrivals": ("count",),
    "send_early": ("station",),
    "leave": ("passenger",),
    "replace_seat": ("station", "seat", "place"),
    "checkpoint": ("name",),
    "restore": ("name",),
}


class Situation:
    """All that operations change.

    The present is (network, state, arrivals, counts of the ports); the checkpoints are a dict from
    each name to the present that it remembers. Nothing changes a situation or what it holds, so that
    undo and checkpoints may keep it.
    """

    def __init__(self, present, checkpoints):
        self.present = present
        self.checkpoints = checkpoints


def begin(network):
    """Return the situation in which a dispatcher of a network begins."""
    return Situation((network, initial_state(network), 0, {}), {})


def perform_arrivals(situation, count):
    """Let passengers arrive; return (situation, counts of the ports)."""
    check_count(count, 0, MAX_COUNT)
    network, state, arrivals, counts = situation.present
    state, more = let_many_arrive(network, state, count)
    present = (network, state, arrivals + count, add_counts(counts, more))
    return Situation(present, situation.checkpoints), more


def perform_send_early(situation, station):
    """Let a boat depart early; return (situation, finished)."""
    network, state, arrivals, counts = situation.present
    state, finished = send_boat(network, state, station)
    present = (network, state, arrivals, add_counts(counts, count_ports(finished)))
    return Situation(present, situation.checkpoints), finished


def perform_leave(situation, passenger):
    """Let a passenger leave a queue; return (situation, None)."""
    network, state, arrivals, counts = situation.present
    present = (network, remove_passenger(state, passenger), arrivals, counts)
    return Situation(present, situation.checkpoints), None


def perform_replace_seat(situation, station, seat, place):
    """Let a seat lead to another place; return (situation, None)."""
    network, state, arrivals, counts = situation.present
    present = (change_seat(network, station, seat, place), state, arrivals, counts)
    return Situation(present, situation.checkpoints), None


def perform_checkpoint(situation, name):
    """Remember the present under a name; return (situation, None)."""
    if not is_word(name):
        raise InvalidName(name)
    checkpoints = dict(situation.checkpoints)
    checkpoints[name] = situation.present
    return Situation(situation.present, checkpoints), None


def perform_restore(situation, name):
    """Return to what a checkpoint remembers; return (situation, None)."""
    if name not in situation.checkpoints:
        raise UnknownCheckpoint(name)
    return Situation(situation.checkpoints[name], situation.checkpoints), None


PERFORMERS = {
    "arrivals": perform_arrivals,
    "send_early": perform_send_early,
    "leave": perform_leave,
    "replace_seat": perform_replace_seat,
    "checkpoint": perform_checkpoint,
    "restore": perform_restore,
}


def is_operation(entry):
    """Tell whether an entry is a tuple of an operation's name and the right number of arguments."""
    if not isinstance(entry, tuple) or len(entry) == 0:
        return False
    name = entry[0]
    return isinstance(name, str) and name in PARAMETERS and len(entry) == 1 + len(PARAMETERS[name])


def perform(situation, operation):
    """Perform an operation that is one by its form; return (situation, result)."""
    performer = PERFORMERS[operation[0]]
    arguments = operation[1:]
    return performer(situation, *arguments)
