"""Arrivals that repeat: after the period of a network, the same happens again."""

from fullboats.states import join_queue


class Cycle:
    """One period of arrivals, from some queue lengths on, as it repeats for ever, before and behind.

    Passengers and times are numbered from the period's first arrival, so that everybody who arrived
    before has a number up to 0. A phase is a number of arrivals of the period, after which the same
    repetition may as well be taken to begin.
    """

    def __init__(self, network, lengths, period):
        self.network = network
        self.period = period
        self.rows = {}
        self.lengths_at = []
        self.rows_at = []
        self.run_period(self.run_before(lengths))

    def run_before(self, lengths):
        """Return the queues at the beginning of the period, with those who arrived before it."""
        queues = [(0,) * length for length in lengths]
        # Each reachable station sends a boat in each period, and nobody waits for a boat of a single seat.
        # So whoever waits at first, arrived at an unknown time, and is numbered 0, has finished after as
        # many periods as there are stations at which one can wait.
        periods = len([seats for seats in self.network if len(seats) > 1])
        for passenger in range(1 - periods * self.period, 1):
            join_queue(self.network, queues, 0, passenger, [])
        return queues

    def run_period(self, queues):
        """Record each phase, and each boat and each finisher, as (passengers, time), of the period."""
        for time in range(1, self.period + 1):
            self.lengths_at.append(tuple([len(queue) for queue in queues]))
            self.rows_at.append({place: len(rows) for place, rows in self.rows.items()})
            events = []
            join_queue(self.network, queues, 0, time, events)
            for place, passengers in events:
                self.rows.setdefault(place, []).append((passengers, time))

    def row(self, phase, place, number):
        """Return (passengers, time) of a boat or a finisher as numbered from a phase on, or None.

        Passengers and time are numbered from the phase on, too. Those who were waiting then are all 0.
        """
        if place not in self.rows:
            return None
        rows = self.rows[place]
        periods, at = divmod(self.rows_at[phase].get(place, 0) + number - 1, len(rows))
        passengers, time = rows[at]
        shift = periods * self.period - phase
        return tuple([max(0, passenger + shift) for passenger in passengers]), time + shift
