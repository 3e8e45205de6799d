"""Keys: what can be done without pointing (points 75 and 76)."""

from twoknowers.screen import after, press_of, step
from twoknowers.search import first_act


def keys_for(program, state, part):
    """The shortest list of keys that does what pointing at the part does, or None (point 75)."""
    pointed, _ = after(program, state, ("point", part))
    keys = []
    for _ in range(len(program.parts)):
        if _does_press(program, state, pointed[0]):
            return [*keys, ("press",)]
        keys.append(("next",))
        state, _ = step(program, state, ("next",))
    return None


def _does_press(program, state, values):
    """Whether the state allows a press and it leads to these values."""
    if press_of(program, state[1]) is None:
        return False
    behind, _ = step(program, state, ("press",))
    return behind[0] == values


def first_keyless(program, limit):
    """The shortest run to a state where a part can only be pointed at (point 76)."""
    found = first_act(program, limit, _is_keyless)
    if found[0] != "run":
        return found
    _, run, act = found
    return "run", run, act[1]


def _is_keyless(program, before, act, spoken, behind):
    """Whether an act points at a part and no list of keys does the same."""
    return act[0] == "point" and keys_for(program, before, act[1]) is None
