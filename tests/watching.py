"""Points 40 to 55 told a second time, over the screen of tests/model.py."""

from tests.model import Screen

OBSERVERS = (("glance", False), ("watch", False), ("watch", True), ("ask", False),
             ("read", False), ("read", True), ("listen", False), ("listen", True))
# which table of a part an observer of this kind looks into, and whether it follows each act
TABLES = {"glance": (0, False), "watch": (0, True), "ask": (1, False), "read": (1, True)}


def seen_by(observer, screen):
    if observer[0] == "listen":
        return ()
    return (*screen.shown(TABLES[observer[0]][0]), screen.focus)


def done(program, observer, state, act):
    """The sign of the act, and the state behind it."""
    kind, acting = observer
    screen = Screen(program, state)
    before = seen_by(observer, screen)
    spoken = screen.do(act)
    told = [(), ()]
    if acting and act[0] != "tick" and act[0] != "speak":
        told[0] = act
    if kind == "listen" and act[0] == "speak":
        told[1] = spoken
    elif kind != "listen" and TABLES[kind][1] and seen_by(observer, screen) != before:
        told[1] = seen_by(observer, screen)
    return (None if told == [(), ()] else tuple(told)), screen.state()


def steps(program, observer, state):
    return [done(program, observer, state, act) for act in Screen(program, state).allowed()]


def first(program):
    return (0,) * len(program.sizes), 0, ()


def held(program, observer, signs):
    """All states to which histories with exactly these signs lead: a search over pairs of
    how many of the signs were given so far, and the state."""
    met = {(0, first(program)): True}
    waiting = list(met)
    for many, state in waiting:
        for told, behind in steps(program, observer, state):
            pair = None
            if told is None:
                pair = many, behind
            elif many < len(signs) and signs[many] == told:
                pair = many + 1, behind
            if pair is not None and pair not in met:
                met[pair] = True
                waiting.append(pair)
    return tuple(sorted(state for many, state in met if many == len(signs)))


def histories(program, long):
    """All histories of at most `long` acts, each with the state behind it."""
    found = [((), first(program))]
    for run, state in found:
        if len(run) < long:
            for act in Screen(program, state).allowed():
                screen = Screen(program, state)
                screen.do(act)
                found.append((run + (act,), screen.state()))
    return found


def followed(program, observer, run):
    """The signs of a run, with None where there is none, and the state behind it."""
    state, signs = first(program), []
    for act in run:
        told, state = done(program, observer, state, act)
        signs.append(told)
    return signs, state


def walk(program, chance, long):
    """A run of this length that goes somewhere."""
    screen, run = Screen(program, first(program)), []
    for _ in range(long):
        act = chance.choice(screen.allowed())
        screen.do(act)
        run.append(act)
    return run
