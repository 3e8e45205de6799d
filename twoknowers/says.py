"""What is said too late, or not at all (points 70 and 71)."""

from twoknowers.screen import look_of, word_of
from twoknowers.search import first_act


def first_stale(program, limit):
    """The shortest run to a speak act that is stale (point 71)."""
    return _answer(first_act(program, limit, _is_stale))


def first_unsaid(program, limit):
    """The shortest run to an act that leaves a change unsaid (point 71)."""
    return _answer(first_act(program, limit, _is_unsaid))


def _answer(found):
    """The answer of point 71, in which the act that was found ends the run."""
    if found[0] != "run":
        return found
    _, run, act = found
    return "run", [*run, act]


def _is_stale(program, before, act, spoken, behind):
    """Whether an act speaks a word that its part does not have then (point 70)."""
    if spoken == ():
        return False
    part, word = spoken
    return word != word_of(program, before[0], part)


def _is_unsaid(program, before, act, spoken, behind):
    """Whether an act leaves a change unsaid (point 70)."""
    values, _, queue = behind
    for part in range(len(program.parts)):
        is_changed = look_of(program, before[0], part) != look_of(program, values, part)
        if is_changed and (part, word_of(program, values, part)) not in queue:
            return True
    return False
