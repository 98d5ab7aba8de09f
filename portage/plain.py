"""The plain machine: the processes of a program, one instruction at a time, without places."""

from portage.machine import Machine
from portage.micro import first_frame


def begin(image):
    """Returns the state at the beginning."""
    first = ((), 0)
    process = ((), (1, 0), ("run",), ((first, first_frame(image, "start", "start", ())),))
    return ((first, "start", ()),), (process,), ()


def ready(state):
    """Returns the list of the names of the processes that run, ascending."""
    return sorted([process[0] for process in state[1] if process[2] == ("run",)])


def step(image, state, process):
    """Returns the state behind a step of the process."""
    return run(image, state, (process,))


def run(image, state, order):
    """Returns the state behind the steps of an order of processes."""
    machine = Machine(image, state)
    for process in order:
        machine.step(process)
    return machine.state()


def finish(image, state, limit):
    """Runs the processes in turns, at most so many steps; returns the state and the order of the steps."""
    machine = Machine(image, state)
    order = []
    turn = machine.running()
    while len(turn) > 0 and len(order) < limit:
        # The limit may lie within a turn.
        now = turn[:limit - len(order)]
        for process in now:
            machine.step(process)
        order.extend(now)
        turn = machine.running()
    return machine.state(), tuple(order)
