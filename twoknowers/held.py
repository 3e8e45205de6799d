"""What an observer holds: the states that fit the signs that it was given (point 51)."""

from twoknowers.observers import sign
from twoknowers.screen import acts, start, step


def first_held(program, observer):
    """What the observer holds at the start."""
    return _at_start(Steps(program, observer))


def next_held(program, observer, held, told):
    """What the observer holds behind an act with the sign `told`, which may be None."""
    return _behind(Steps(program, observer), held, told)


class Steps:
    """Where the acts of states lead and what one observer notices; each state is asked once."""

    def __init__(self, program, observer):
        self.program = program
        self.observer = observer
        self.known = {}

    def leads(self, state):
        """For each act that the state allows, in order, its sign and the state behind it."""
        if state not in self.known:
            self.known[state] = {act: self._lead(state, act) for act in acts(self.program, state)}
        return self.known[state]

    def _lead(self, state, act):
        """The sign of an act and the state behind it."""
        behind, spoken = step(self.program, state, act)
        return sign(self.program, self.observer, state, act, spoken, behind), behind

    def with_sign(self, state, wanted):
        """The states behind the acts that have this sign."""
        return [behind for told, behind in self.leads(state).values() if told == wanted]


class Holder:
    """What one observer holds behind histories, each tuple of states with a number.

    A tuple may be long; its number stands for it where it is compared again and again.
    """

    def __init__(self, program, observer):
        self.steps = Steps(program, observer)
        self.tuples = []
        self.numbers = {}
        self.members = {}
        self.found = {}

    def number_of(self, held):
        """The number of a tuple of states; one that is new gets the next number."""
        if held not in self.numbers:
            self.numbers[held] = len(self.tuples)
            self.tuples.append(held)
        return self.numbers[held]

    def at_start(self):
        """The number of what is held at the start."""
        return self.number_of(_at_start(self.steps))

    def behind(self, number, told):
        """The number of what is held behind an act with this sign, which may be None."""
        key = (number, told)
        if key not in self.found:
            self.found[key] = self.number_of(_behind(self.steps, self.tuples[number], told))
        return self.found[key]

    def holds(self, number, state):
        """Whether the state is one of those that have this number."""
        if number not in self.members:
            self.members[number] = {each: True for each in self.tuples[number]}
        return state in self.members[number]


def _at_start(steps):
    """What the observer holds at the start."""
    return _spread(steps, [start(steps.program)])


def _behind(steps, held, told):
    """What the observer holds behind an act with this sign, which may be None."""
    if told is None:
        return held
    return _spread(steps, [behind for state in held for behind in steps.with_sign(state, told)])


def _spread(steps, states):
    """The states and all to which acts without a sign lead from them, in ascending order."""
    waiting = list(states)
    seen = set(states)
    while waiting:
        state = waiting.pop()
        for behind in steps.with_sign(state, None):
            if behind not in seen:
                seen.add(behind)
                waiting.append(behind)
    return tuple(sorted(seen))
