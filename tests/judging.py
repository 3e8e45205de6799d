"""Points 52 to 54 and 60 to 62 told a second time, over tests/model.py and tests/watching.py."""

from tests import model, watching
from tests.watching import OBSERVERS
from twoknowers.program import Program

PAIRS = [(first, second) for first in OBSERVERS for second in OBSERVERS]
# one live part: its look is always the same, its word tells the variable
LAMP = Program(sizes=(2,), parts=(((0, (4, 4)), (0, (0, 1)), ((0, 1),)),), live=(0,))
# two parts, the first one seen and the second one read, and a clock
PANEL = Program(sizes=(2, 2), parts=(((0, (1, 2)), (1, (5, 5)), ((0, 1),)),
                                     ((1, (3, 3)), (1, (6, 7)), None)),
                ticks=(((1, 1),),), live=(1,))


def small(many, seed, states):
    """Some of the random programs, those with few states."""
    return [program for program in model.programs(many, seed)
            if len(model.all_states(program, states)[0]) <= states]


def onward(program, observer, held, told):
    """What is held behind a sign, by sets that grow until nothing is new."""
    if told is None:
        return held
    return spread(program, observer, {behind for state in held
                                      for sign, behind in watching.steps(program, observer, state)
                                      if sign == told})


def spread(program, observer, found):
    size = -1
    while len(found) != size:
        size = len(found)
        found = found | {behind for state in found
                         for sign, behind in watching.steps(program, observer, state)
                         if sign is None}
    return tuple(sorted(found))


def first_node(program, first):
    begin = watching.first(program)
    return begin, spread(program, first, {begin}), begin


def moves(program, second, node):
    """The moves, taken from all pairs of an act or none of each history, and then put in order."""
    here, there = [
        [(None, None)] + [(act, watching.done(program, second, state, act)[0])
                          for act in model.Screen(program, state).allowed()]
        for state in (node[0], node[2])]
    found = []
    for at, (act, told) in enumerate(here):
        for to, (other_act, other_told) in enumerate(there):
            if told != other_told or (told is None and (act is None) == (other_act is None)):
                continue
            which = 3 if told is not None else 1 if other_act is None else 2
            found.append((which, at, to, (which, *[one for one in (act, other_act) if one])))
    return [row[3] for row in sorted(found)]


def next_node(program, first, node, move):
    state, held, other = node
    one, two = done_by(move)
    for act in one:
        told, state = watching.done(program, first, state, act)
        held = onward(program, first, held, told)
    for act in two:
        other = watching.done(program, first, other, act)[1]
    return state, held, other


def done_by(move):
    """The acts of the first and of the second history in a move."""
    return {1: (move[1:], ()), 2: ((), move[1:]), 3: (move[1:2], move[2:])}[move[0]]


def is_bad(program, first, second, node):
    state, held, other = node
    if "listen" in (first[0], second[0]) and (state[2] or other[2]):
        return False
    known = [watching.seen_by(second, model.Screen(program, each)) for each in (state, other)]
    return known[0] == known[1] and other not in [
        each for each in held if watching.seen_by(first, model.Screen(program, each))
        == watching.seen_by(first, model.Screen(program, state))]


class Nodes:
    """The nodes in the order of point 60, also those behind bad ones, till there are `most`."""

    def __init__(self, program, first, second, most):
        self.program, self.first, self.second = program, first, second
        self.kept = {}
        self.found = [first_node(program, first)]
        self.order = {self.found[0]: 0}
        self.paths = [()]
        self.targets = []
        while len(self.targets) < len(self.found) <= most:
            self.take(len(self.targets))
        self.whole = len(self.targets) == len(self.found)

    def take(self, at):
        row = []
        for move in moves(self.program, self.second, self.found[at]):
            behind = self.behind(self.found[at], move)
            if behind not in self.order:
                self.order[behind] = len(self.found)
                self.found.append(behind)
                self.paths.append(self.paths[at] + (move,))
            row.append(self.order[behind])
        self.targets.append(tuple(row))

    def behind(self, node, move):
        state, held, other = node
        key = state, held, move[1]
        if move[0] == 2:
            return next_node(self.program, self.first, node, move)
        if key not in self.kept:
            self.kept[key] = next_node(self.program, self.first, node, (1, move[1]))[:2]
        if move[0] == 1:
            return (*self.kept[key], other)
        return (*self.kept[key], watching.done(self.program, self.first, other, move[2])[1])

    def bad(self):
        """The numbers of the bad nodes, ascending."""
        return [at for at, node in enumerate(self.found)
                if is_bad(self.program, self.first, self.second, node)]

    def rows(self):
        return [(*node, row) for node, row in zip(self.found, self.targets)]

    def verdict(self, limit):
        """The verdict for a limit that is not above `most`: the nodes before a bad one have
        numbers, so it is met if these are at most `limit`."""
        bad = self.bad()
        if bad and bad[0] <= limit:
            path = self.paths[bad[0]]
            return ("does not", [act for move in path for act in done_by(move)[0]],
                    [act for move in path for act in done_by(move)[1]])
        if not self.whole or len(self.found) > limit:
            return ("many",)
        return "tells", len(self.found)


def accepts(program, first, second, rows):
    """Point 62, row by row, for rows that may have anything in place of a state."""
    states = {repr(state) for state in model.all_states(program, 100000)[0]}
    for state, held, other, _ in rows:
        if not all(repr(each) in states for each in (state, *held, other)):
            return False
    if not rows or rows[0][:3] != first_node(program, first):
        return False
    for at, row in enumerate(rows):
        if at > 0 and not any(at in earlier[3] for earlier in rows[:at]):
            return False
        ways = moves(program, second, row[:3])
        if is_bad(program, first, second, row[:3]) or len(ways) != len(row[3]):
            return False
        for way, target in zip(ways, row[3]):
            if target not in range(len(rows)):
                return False
            if rows[target][:3] != next_node(program, first, row[:3], way):
                return False
    return True
