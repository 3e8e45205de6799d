"""The search for the first act of a kind, over the states as they are met (point 71)."""

from twoknowers.screen import acts, start, step


def first_act(program, limit, is_wanted):
    """The first act for which `is_wanted(program, before, act, spoken, behind)` holds.

    It is told as ("run", acts, act), with the acts by which the state before it was first met;
    ("many",) and ("never", count) are told as in point 71.
    """
    met = [start(program)]
    ways = {met[0]: None}
    taken = 0
    while taken < len(met):
        state = met[taken]
        for act in acts(program, state):
            behind, spoken = step(program, state, act)
            if is_wanted(program, state, act, spoken, behind):
                return "run", _acts_to(ways, state), act
            if behind not in ways:
                if len(met) >= limit:
                    return ("many",)
                ways[behind] = (state, act)
                met.append(behind)
        taken += 1
    return "never", len(met)


def _acts_to(ways, state):
    """The acts by which a state was first met."""
    found = []
    while ways[state] is not None:
        state, act = ways[state]
        found.append(act)
    return found[::-1]
