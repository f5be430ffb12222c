"""Steps of the plain machine (S3.3, S3.4)."""

from shapeguess.errors import BadState
from shapeguess.machine import Machine
from shapeguess.states import LaterState
from shapeguess.working import Held, Work


def step(state):
    """Return the state after one step."""
    if state.end() is not None:
        raise BadState("end")
    return run(state, 1)[0]


def run(state, limit):
    """Return the state after at most limit steps, and the number of the steps that were made."""
    held = Held(state.objects(), state.global_values(), state.shown())
    machine = Machine(state.codes(), state.frames(), state.end(), Work(state.program(), state.book(), held))
    steps = 0
    while steps < limit and machine.end() is None:
        machine.step()
        steps += 1
    objects, global_values, shown = held.parts()
    return LaterState(state, machine.frames(), objects, global_values, shown, machine.end()), steps
