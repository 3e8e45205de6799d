"""What can be told behind a run: signs and states that are possible (points 50 and 55)."""

from twoknowers.held import first_held, next_held
from twoknowers.observers import final, require_observer, sign
from twoknowers.screen import after, start


def noticed(program, observer, run):
    """The signs that the run gives, without None, and what the observer knows at the end."""
    signs, state = _followed(program, observer, run)
    return signs, final(program, observer, state)


def possible(program, observer, run):
    """The states that are possible for the observer behind the run, ascending (point 50)."""
    signs, state = _followed(program, observer, run)
    held = first_held(program, observer)
    for told in signs:
        held = next_held(program, observer, held, told)
    known = final(program, observer, state)
    return [other for other in held if final(program, observer, other) == known]


def can_tell(program, observer, run, states):
    """Whether every state that is possible behind the run is one of these (point 55)."""
    named = set(states)
    for state in possible(program, observer, run):
        if state not in named:
            return False
    return True


def _followed(program, observer, run):
    """The signs of the run, without None, and the state behind it; the errors are raised."""
    require_observer(observer)
    state = start(program)
    signs = []
    for act in run:
        behind, spoken = after(program, state, act)
        told = sign(program, observer, state, act, spoken, behind)
        if told is not None:
            signs.append(told)
        state = behind
    return signs, state
