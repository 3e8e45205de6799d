"""Screens: states, what they show and say, and the acts that lead on (points 20 to 25)."""

from twoknowers.errors import NotAllowed


def start(program):
    """The first state (point 20)."""
    return (0,) * len(program.sizes), 0, ()


def look_of(program, values, part):
    """The look of a part at these values (point 11)."""
    variable, table = program.parts[part][0]
    return table[values[variable]]


def word_of(program, values, part):
    """The word of a part at these values (point 11)."""
    variable, table = program.parts[part][1]
    return table[values[variable]]


def press_of(program, part):
    """The changes of the press of a part, or None if it has no press."""
    return program.parts[part][2]


def sight(program, state):
    """The looks of all parts, followed by the focus (point 21)."""
    values, focus, _ = state
    looks = [look_of(program, values, part) for part in range(len(program.parts))]
    return (*looks, focus)


def reading(program, state):
    """The words of all parts, followed by the focus (point 21)."""
    values, focus, _ = state
    words = [word_of(program, values, part) for part in range(len(program.parts))]
    return (*words, focus)


def put(queue, message):
    """The queue with a message put into it (point 22)."""
    part = message[0]
    if all(waiting[0] != part for waiting in queue):
        return (*queue, message)
    return tuple([message if waiting[0] == part else waiting for waiting in queue])


def acts(program, state):
    """The allowed acts in their order (point 23)."""
    _, focus, queue = state
    pressed = [part for part in range(len(program.parts)) if press_of(program, part) is not None]
    allowed = [("point", part) for part in pressed]
    allowed.append(("next",))
    if focus in pressed:
        allowed.append(("press",))
    allowed.extend([("tick", index) for index in range(len(program.ticks))])
    if queue:
        allowed.append(("speak",))
    return allowed


def after(program, state, act):
    """The state behind an act and what is spoken (points 23 and 24); NotAllowed(act) is raised."""
    if not _is_allowed(program, state, act):
        raise NotAllowed(act)
    return step(program, state, act)


def _is_allowed(program, state, act):
    """Whether the state allows the act."""
    # For Python, True equals 1 and False equals 0; point 3 says that they are not numbers.
    if any(isinstance(item, bool) for item in act):
        return False
    return act in acts(program, state)


def step(program, state, act):
    """What `after` returns, for an act that is known to be allowed."""
    values, focus, queue = state
    if act[0] == "speak":
        return (values, focus, queue[1:]), queue[0]
    if act[0] == "next":
        return _moved(program, state), ()
    return _changed(program, state, _changes_of(program, focus, act)), ()


def _changes_of(program, focus, act):
    """The changes of a point, a press or a tick."""
    if act[0] == "tick":
        return program.ticks[act[1]]
    if act[0] == "point":
        return press_of(program, act[1])
    return press_of(program, focus)


def _moved(program, state):
    """The state behind a next (point 23)."""
    values, focus, queue = state
    now = _next_focus(program, focus)
    # The message is put even where the focus stays: it is said again where one is.
    return values, now, put(queue, (now, word_of(program, values, now)))


def _next_focus(program, focus):
    """The next part that is not skipped, or the focus if there is none (point 23)."""
    many = len(program.parts)
    for by in range(1, many):
        part = (focus + by) % many
        if part not in program.skips:
            return part
    return focus


def _changed(program, state, changes):
    """The state behind changes and the messages of the live parts (point 24)."""
    values, focus, queue = state
    behind = _added(program.sizes, values, changes)
    for part in program.live:
        word = word_of(program, behind, part)
        if word != word_of(program, values, part):
            queue = put(queue, (part, word))
    return behind, focus, queue


def _added(sizes, values, changes):
    """The values behind changes, which are done in their order (point 12)."""
    behind = list(values)
    for variable, add in changes:
        behind[variable] = (behind[variable] + add) % sizes[variable]
    return tuple(behind)


def reached(program, limit):
    """All states that are reached, as they are met; None if there are more (point 25)."""
    met = [start(program)]
    seen = set()
    seen.add(met[0])
    taken = 0
    while taken < len(met):
        rows = _states_behind(program, met[taken])
        for state in rows:
            if state not in seen:
                if len(met) >= limit:
                    return None
                seen.add(state)
                met.append(state)
        taken += 1
    return met


def _states_behind(program, state):
    """The states behind the allowed acts, in the order of the acts."""
    return [step(program, state, act)[0] for act in acts(program, state)]
