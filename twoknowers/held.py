"""What an observer holds: the states that fit the signs that it was given (point 51)."""

from twoknowers.observers import sign
from twoknowers.screen import acts, start, step


def first_held(program, observer):
    """What the observer holds at the start."""
    return _spread(program, observer, [start(program)])


def next_held(program, observer, held, told):
    """What the observer holds behind an act with the sign `told`, which may be None."""
    if told is None:
        return held
    found = [behind for state in held for behind in _behind(program, observer, state, told)]
    return _spread(program, observer, found)


def _spread(program, observer, states):
    """The states and all to which acts without a sign lead from them, in ascending order."""
    waiting = list(states)
    seen = set(states)
    while waiting:
        state = waiting.pop()
        for behind in _behind(program, observer, state, None):
            if behind not in seen:
                seen.add(behind)
                waiting.append(behind)
    return tuple(sorted(seen))


def _behind(program, observer, state, told):
    """The states behind the acts that are allowed in the state and have this sign."""
    found = []
    for act in acts(program, state):
        behind, spoken = step(program, state, act)
        if sign(program, observer, state, act, spoken, behind) == told:
            found.append(behind)
    return found
