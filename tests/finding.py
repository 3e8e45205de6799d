"""Points 70 to 76 told a second time, over the screen of tests/model.py."""

from tests import model
from tests.model import Screen


def done(program, state, act):
    """The state behind an act, and what is spoken."""
    screen = Screen(program, state)
    spoken = screen.do(act)
    return screen.state(), spoken


def is_stale(program, state, act):
    if act != ("speak",):
        return False
    part, word = done(program, state, act)[1]
    return Screen(program, state).shown(1)[part] != word


def is_unsaid(program, state, act):
    behind, _ = done(program, state, act)
    before, now = Screen(program, state), Screen(program, behind)
    said = dict(behind[2])
    return any(look != before.shown(0)[at] and said.get(at) != now.shown(1)[at]
               for at, look in enumerate(now.shown(0)))


def keys_for(program, state, part):
    """All lists of keys, the shortest first."""
    aim = done(program, state, ("point", part))[0][0]
    for many in range(len(program.parts)):
        screen, keys = Screen(program, state), [("next",)] * many + [("press",)]
        for key in keys:
            if key not in screen.allowed():
                break
            screen.do(key)
        else:
            if screen.state()[0] == aim:
                return keys
    return None


def is_keyless(program, state, act):
    return act[0] == "point" and keys_for(program, state, act[1]) is None


class Search:
    """All states in the order in which they are met, and the first act of a kind."""

    def __init__(self, program, is_wanted):
        self.program = program
        self.order, _ = model.all_states(program, 100000)
        self.number = {state: at for at, state in enumerate(self.order)}
        self.runs = {self.order[0]: []}
        self.wanted = None
        # how many states are met when the act is looked at, and the most acts of a run to a state
        self.met = 1
        for state in self.order:
            for act in Screen(program, state).allowed():
                if self.wanted is None and is_wanted(program, state, act):
                    self.wanted = state, act
                behind, _ = done(program, state, act)
                self.runs.setdefault(behind, self.runs[state] + [act])
                if self.wanted is None:
                    self.met = max(self.met, self.number[behind] + 1)

    def answer(self, limit):
        """The answer of point 71, with the act apart from the run to it."""
        if self.met > limit:
            return ("many",)
        if self.wanted is None:
            return "never", len(self.order)
        state, act = self.wanted
        return "run", self.runs[state], act
