"""Points 10 to 25 told a second time, in another way, and programs to compare with."""

import random

from twoknowers.program import Program


def programs(many, seed):
    """Some right programs of all forms, the same ones each time."""
    chance = random.Random(seed)
    return [made(chance) for _ in range(many)]


def made(chance):
    sizes = tuple(chance.randint(2, 4) for _ in range(chance.randint(1, 3)))

    def pair():
        variable = chance.randrange(len(sizes))
        return variable, tuple(chance.randint(0, 7) for _ in range(sizes[variable]))

    def changes():
        return tuple((chance.randrange(len(sizes)), chance.randint(1, 3))
                     for _ in range(chance.randint(1, 3)))

    def some(many):
        return tuple(index for index in range(many) if chance.random() < 0.5)

    parts = tuple((pair(), pair(), changes() if chance.random() < 0.6 else None)
                  for _ in range(chance.randint(1, 4)))
    ticks = tuple(changes() for _ in range(chance.randint(0, 2)))
    return Program(sizes=sizes, parts=parts, ticks=ticks,
                   live=some(len(parts)), skips=some(len(parts)))


class Screen:
    """One run of a program, act by act, with the state kept in a list and two dicts."""

    def __init__(self, program, state):
        self.program = program
        values, self.focus, queue = state
        self.values = list(values)
        # a dict keeps the place of a key whose value is replaced
        self.waiting = dict(queue)

    def state(self):
        return tuple(self.values), self.focus, tuple(self.waiting.items())

    def shown(self, which):
        found = []
        for part in self.program.parts:
            variable, table = part[which]
            found.append(table[self.values[variable]])
        return found

    def allowed(self):
        presses = [part[2] for part in self.program.parts]
        ways = []
        ways += [("point", at) for at, press in enumerate(presses) if press is not None]
        ways += [("next",)]
        ways += [("press",)] * (presses[self.focus] is not None)
        ways += [("tick", at) for at, _ in enumerate(self.program.ticks)]
        ways += [("speak",)] * (len(self.waiting) > 0)
        return ways

    def do(self, act):
        """Does the act; returns what is spoken."""
        if act == ("speak",):
            oldest = list(self.waiting)[0]
            return oldest, self.waiting.pop(oldest)
        if act == ("next",):
            self.move()
        elif act == ("press",):
            self.change(self.program.parts[self.focus][2])
        elif act[0] == "point":
            self.change(self.program.parts[act[1]][2])
        else:
            self.change(self.program.ticks[act[1]])
        return ()

    def move(self):
        open_parts = [at for at, _ in enumerate(self.program.parts)
                      if at not in self.program.skips]
        behind = [at for at in open_parts if at > self.focus]
        self.focus = (behind + open_parts + [self.focus])[0]
        self.waiting[self.focus] = self.shown(1)[self.focus]

    def change(self, changes):
        before = self.shown(1)
        for variable, add in changes:
            for _ in range(add):
                self.values[variable] += 1
                if self.values[variable] == self.program.sizes[variable]:
                    self.values[variable] = 0
        for at, word in enumerate(self.shown(1)):
            if at in self.program.live and word != before[at]:
                self.waiting[at] = word


def all_states(program, most):
    """The states in the order in which they are met, at most about `most` of them taken."""
    first = ((0,) * len(program.sizes), 0, ())
    order = {first: None}
    layer = [first]
    while layer and len(order) <= most:
        found = []
        for state in layer:
            for act in Screen(program, state).allowed():
                screen = Screen(program, state)
                screen.do(act)
                if screen.state() not in order:
                    order[screen.state()] = None
                    found.append(screen.state())
        layer = found
    return list(order), not layer
