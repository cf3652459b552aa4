"""A plain dispatcher for the tests: it copies everything before each operation."""

import copy
import random

from fullboats import errors
from plain import PlainRun, random_network

PARAMETERS = {"arrivals": 1, "send_early": 1, "leave": 1, "replace_seat": 3, "checkpoint": 1, "restore": 1}


class PlainDispatcher:
    """Makes calls as the document says. A call that fails raises the error's class with its attributes."""

    def __init__(self, network):
        self.now = {"network": network, "state": (1, ((),) * len(network)), "count": 0, "totals": {}, "names": {}}
        self.before = []
        self.behind = []
        self.calls = []

    def call(self, name, *arguments):
        """Make a call and return what it returns."""
        if name == "undo":
            return self.turn(name, self.before, self.behind)
        if name == "redo":
            return self.turn(name, self.behind, self.before)
        kept = copy.deepcopy(self.now)
        try:
            if name == "batch":
                result = self.batch(*arguments)
                arguments = (tuple(arguments[0]),)
            else:
                result = getattr(self, name)(*arguments)
        except errors.FerryError:
            self.now = kept
            raise
        self.before.append(kept)
        self.behind.clear()
        self.calls.append((name,) + arguments)
        return result

    def turn(self, name, source, target):
        if not source:
            return False
        target.append(self.now)
        self.now = source.pop()
        self.calls.append((name,))
        return True

    def batch(self, operations):
        for index, entry in enumerate(operations):
            if not isinstance(entry, tuple) or not entry or PARAMETERS.get(entry[0]) != len(entry) - 1:
                raise errors.InvalidOperation(index)
        return [getattr(self, entry[0])(*entry[1:]) for entry in operations]

    def run(self):
        return PlainRun(self.now["network"], self.now["state"])

    def take(self, run):
        self.now["state"] = run.state()
        for port, number in run.finished_counts().items():
            self.now["totals"][port] = self.now["totals"].get(port, 0) + number

    def arrivals(self, count):
        if not 0 <= count <= 10 ** 18:
            raise errors.InvalidCount
        run = self.run()
        run.arrive(count)
        self.take(run)
        self.now["count"] += count
        return run.finished_counts()

    def send_early(self, station):
        run = self.run()
        if not 0 <= station < len(run.queues):
            raise errors.UnknownStation
        if not run.queues[station]:
            raise errors.EmptyBoat
        finished = run.send(station)
        self.take(run)
        return finished

    def leave(self, passenger):
        run = self.run()
        queues = [queue for queue in run.queues if passenger in queue]
        if not queues:
            raise errors.UnknownPassenger
        queues[0].remove(passenger)
        self.take(run)

    def replace_seat(self, station, seat, place):
        network = [list(seats) for seats in self.now["network"]]
        if not 0 <= station < len(network):
            raise errors.UnknownStation
        if not 0 <= seat < len(network[station]):
            raise errors.UnknownSeat
        network[station][seat] = place
        valid = place.isalpha() and place.islower() and len(place) <= 8 if isinstance(place, str) \
            else station < place < len(network)
        if not valid:
            raise errors.InvalidNetwork(station, seat)
        self.now["network"] = tuple(map(tuple, network))

    def checkpoint(self, name):
        if not (name.isalpha() and name.islower() and len(name) <= 8):
            raise errors.InvalidName(name)
        self.now["names"][name] = copy.deepcopy({key: value for key, value in self.now.items() if key != "names"})

    def restore(self, name):
        if name not in self.now["names"]:
            raise errors.UnknownCheckpoint(name)
        self.now.update(copy.deepcopy(self.now["names"][name]))

    def told(self):
        """Return what a dispatcher tells."""
        return [self.now["network"], self.now["state"], self.now["count"], self.now["totals"],
                sorted(self.now["names"]), self.calls]


def tell(dispatcher):
    """Return what a dispatcher tells, as told does."""
    return [dispatcher.current_network(), dispatcher.current_state(), dispatcher.arrival_count(),
            dispatcher.totals(), dispatcher.checkpoint_names(), dispatcher.log()]


def outcome(function, *arguments):
    """Return what a call returns, or the class and the attributes of the error that it raises."""
    try:
        return ("returned", function(*arguments))
    except errors.FerryError as error:
        return ("raised", type(error), vars(error))


class CallMaker:
    """Makes calls of a dispatcher, many of which fail."""

    def __init__(self, seed):
        self.chooser = random.Random(seed)

    def network(self):
        return random_network(self.chooser, 4, 4, 2)

    def operation(self, plain):
        """Return an operation that may be in a batch, which often suits the plain dispatcher's present."""
        chooser = self.chooser
        name = chooser.choice(["arrivals"] * 3 + ["checkpoint", "restore"] * 2 + ["send_early", "leave", "replace_seat"])
        if name == "arrivals":
            return (name, chooser.choice([0, 1, 1, 2, 3, 5, 30, -1]))
        if name == "send_early":
            return (name, chooser.randint(-1, 4))
        if name == "leave":
            return (name, max(0, plain.now["state"][0] - chooser.randint(0, 4)))
        if name == "replace_seat":
            places = ["a", "b", "new", 1, 2, 3, 3, 0, "A", "abcdefghi"]
            return (name, chooser.randint(0, 4), chooser.randint(0, 3), chooser.choice(places))
        return (name, chooser.choice(["x", "y", "x", "abcdefgh", "X1" if name == "checkpoint" else "z"]))

    def call(self, plain):
        """Return any call."""
        kind = self.chooser.random()
        if kind < 0.2:
            return ("undo",)
        if kind < 0.35:
            return ("redo",)
        if kind < 0.45:
            operations = [self.operation(plain) for _ in range(self.chooser.randrange(4))]
            if self.chooser.random() < 0.1:
                operations.append(self.chooser.choice([("undo",), (), ["arrivals", 1], ("arrivals",), ("log",)]))
            return ("batch", operations if self.chooser.random() < 0.5 else tuple(operations))
        return self.operation(plain)
