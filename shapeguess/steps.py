"""Steps of the plain machine (S3.3, S3.4)."""

from shapeguess.errors import BadState
from shapeguess.machine import Machine


def step(state):
    """Return the state after one step."""
    if state.end() is not None:
        raise BadState("end")
    machine = Machine(state)
    machine.step()
    return machine.state()


def run(state, limit):
    """Return the state after at most limit steps, and the number of the steps that were made."""
    machine = Machine(state)
    steps = 0
    while steps < limit and not machine.has_ended():
        machine.step()
        steps += 1
    return machine.state(), steps
