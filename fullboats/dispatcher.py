"""Dispatchers: a network at work, whose operations can be undone and performed again."""

from fullboats.errors import InvalidOperation
from fullboats.operations import begin, is_operation, perform


class Dispatcher:
    """Keeps a network, a state, how many passengers arrived and finished, and named checkpoints."""

    def __init__(self, network):
        self.situation = begin(network)
        # The situations ahead of all operations that can be undone, and behind those that can be redone.
        self.past = []
        self.future = []
        self.calls = []

    def arrivals(self, count):
        """Let passengers arrive, and return the dict of how many reached each port."""
        return self.operate(("arrivals", count))

    def send_early(self, station):
        """Let a station's boat depart with those who wait, and return the list of (port, passenger)."""
        return self.operate(("send_early", station))

    def leave(self, passenger):
        """Let a passenger leave a queue."""
        return self.operate(("leave", passenger))

    def replace_seat(self, station, seat, place):
        """Let a seat lead to another place."""
        return self.operate(("replace_seat", station, seat, place))

    def checkpoint(self, name):
        """Remember the present under a name."""
        return self.operate(("checkpoint", name))

    def restore(self, name):
        """Return to what a checkpoint remembers."""
        return self.operate(("restore", name))

    def batch(self, operations):
        """Perform a list or tuple of operations as a single one, and return the list of their results."""
        for index, operation in enumerate(operations):
            if not is_operation(operation):
                raise InvalidOperation(index)
        situation = self.situation
        results = []
        for operation in operations:
            situation, result = perform(situation, operation)
            results.append(result)
        self.go_on(situation, ("batch", tuple(operations)))
        return results

    def undo(self):
        """Revert the latest operation that has not been reverted; tell whether there was one."""
        if len(self.past) == 0:
            return False
        self.future.append(self.situation)
        self.situation = self.past.pop()
        self.calls.append(("undo",))
        return True

    def redo(self):
        """Perform again the operation that was reverted last; tell whether there was one."""
        if len(self.future) == 0:
            return False
        self.past.append(self.situation)
        # An operation does the same again in the same situation, so its result is kept instead.
        self.situation = self.future.pop()
        self.calls.append(("redo",))
        return True

    def current_network(self):
        """Return the network."""
        return self.situation.present[0]

    def current_state(self):
        """Return the state."""
        return self.situation.present[1]

    def arrival_count(self):
        """Return the number of arrivals."""
        return self.situation.present[2]

    def totals(self):
        """Return the dict of how many passengers reached each port."""
        return dict(self.situation.present[3])

    def checkpoint_names(self):
        """Return the list of the names of all checkpoints, ascending."""
        return sorted(self.situation.checkpoints)

    def log(self):
        """Return the list of all calls of operations, undo and redo that did something, as tuples."""
        return list(self.calls)

    def operate(self, operation):
        """Perform an operation, and return its result."""
        situation, result = perform(self.situation, operation)
        self.go_on(situation, operation)
        return result

    def go_on(self, situation, call):
        """Continue with the situation that the call of an operation leads to."""
        self.past.append(self.situation)
        self.future = []
        self.situation = situation
        self.calls.append(call)
