"""How scripts run."""

from fullboats.checks import check_count
from fullboats.editing import change_seat, remove_passenger, send_boat
from fullboats.errors import EmptyBoat, InvalidNetwork, UnknownPassenger, UnknownSeat, UnknownStation
from fullboats.progress import add_counts, count_ports, let_many_arrive
from fullboats.script_parser import parse_script
from fullboats.script_values import RunStopped, calculate, compare, limit_value
from fullboats.states import check_state

MAX_STEPS = 100000


class Run:
    """What a run of a script has come to."""

    def __init__(self, network, state, limit):
        self.network = network
        self.state = state
        self.steps_left = limit
        self.output = []
        self.variables = {}
        # The numbers of the passengers who reached each port.
        self.counts = {}


def run_script(network, state, source, limit):
    """Run a script, and return (output, network, state, reason)."""
    check_state(network, state)
    statements = parse_script(source)
    check_count(limit, 0, MAX_STEPS)
    run = Run(network, state, limit)
    reason = None
    try:
        run_block(run, statements)
    except RunStopped as stop:
        reason = stop.reason
    return run.output, run.network, run.state, reason


def take_step(run):
    """Stop the run if its steps are used up, otherwise use one."""
    if run.steps_left == 0:
        raise RunStopped("steps")
    run.steps_left -= 1


def run_block(run, statements):
    """Run statements in order."""
    for statement in statements:
        take_step(run)
        runner = RUNNERS[statement[0]]
        runner(run, statement)


def run_arrive(run, statement):
    """Let passengers arrive."""
    count = evaluate(run, statement[1])
    if count < 0:
        raise RunStopped("count")
    run.state, counts = let_many_arrive(run.network, run.state, count)
    run.counts = add_counts(run.counts, counts)


def run_send(run, statement):
    """Let a boat depart early."""
    station = evaluate(run, statement[1])
    try:
        run.state, finished = send_boat(run.network, run.state, station)
    except UnknownStation:
        raise RunStopped("station") from None
    except EmptyBoat:
        raise RunStopped("empty") from None
    run.counts = add_counts(run.counts, count_ports(finished))


def run_leave(run, statement):
    """Let a passenger leave a queue."""
    passenger = evaluate(run, statement[1])
    try:
        run.state = remove_passenger(run.state, passenger)
    except UnknownPassenger:
        raise RunStopped("passenger") from None


def run_print(run, statement):
    """Append a value to the output."""
    run.output.append(evaluate(run, statement[1]))


def run_link(run, statement):
    """Let a seat lead to another place."""
    _, station_part, seat_part, (kind, target) = statement
    station = evaluate(run, station_part)
    seat = evaluate(run, seat_part)
    place = evaluate(run, target) if kind == "station" else target
    try:
        run.network = change_seat(run.network, station, seat, place)
    except UnknownStation:
        raise RunStopped("station") from None
    except UnknownSeat:
        raise RunStopped("seat") from None
    except InvalidNetwork:
        raise RunStopped("network") from None


def run_let(run, statement):
    """Assign a value to a name."""
    _, name, expression = statement
    run.variables[name] = evaluate(run, expression)


def run_repeat(run, statement):
    """Run a block as often as its count tells."""
    _, expression, block = statement
    count = evaluate(run, expression)
    if count < 0:
        raise RunStopped("count")
    for _ in range(count):
        take_step(run)
        run_block(run, block)


def run_if(run, statement):
    """Run one of two blocks."""
    _, left_part, comparison, right_part, block, other = statement
    left = evaluate(run, left_part)
    right = evaluate(run, right_part)
    run_block(run, block if compare(comparison, left, right) else other)


def evaluate(run, expression):
    """Return the value of an expression, or stop the run."""
    evaluator = EVALUATORS[expression[0]]
    return evaluator(run, expression)


def evaluate_number(run, expression):
    """Return the integer of a number."""
    return expression[1]


def evaluate_name(run, expression):
    """Return the value that was assigned to a name."""
    if expression[1] not in run.variables:
        raise RunStopped("undefined")
    return run.variables[expression[1]]


def evaluate_next(run, expression):
    """Return the next passenger's number."""
    return limit_value(run.state[0])


def evaluate_queue(run, expression):
    """Return how many passengers wait at a station."""
    station = evaluate(run, expression[1])
    queues = run.state[1]
    if not 0 <= station < len(queues):
        raise RunStopped("station")
    return len(queues[station])


def evaluate_finished(run, expression):
    """Return how many passengers reached a port."""
    return limit_value(run.counts.get(expression[1], 0))


def evaluate_minus(run, expression):
    """Return a value with its sign changed so many times."""
    _, many, operand = expression
    value = evaluate(run, operand)
    return -value if many & 1 else value


def evaluate_chain(run, expression):
    """Return the value of a sum or a product."""
    _, first, rest = expression
    value = evaluate(run, first)
    for sign, operand in rest:
        value = calculate(sign, value, evaluate(run, operand))
    return value


RUNNERS = {
    "arrive": run_arrive,
    "send": run_send,
    "leave": run_leave,
    "print": run_print,
    "link": run_link,
    "let": run_let,
    "repeat": run_repeat,
    "if": run_if,
}

EVALUATORS = {
    "number": evaluate_number,
    "name": evaluate_name,
    "next": evaluate_next,
    "queue": evaluate_queue,
    "finished": evaluate_finished,
    "minus": evaluate_minus,
    "sum": evaluate_chain,
    "product": evaluate_chain,
}
