"""Observers: what they notice of acts and what they know at the end (points 40 to 43)."""

from twoknowers.errors import BadObserver
from twoknowers.screen import reading, sight

# Kinds of observers, each with whether it may be acting.
KINDS = {"glance": False, "watch": True, "ask": False, "read": True, "listen": True}
# First words of the acts that one does oneself; ticks and speaks come by themselves.
DEEDS = ("point", "next", "press")


def require_observer(observer):
    """Raises BadObserver(observer) if this is not an observer (point 40)."""
    if not _is_observer(observer):
        raise BadObserver(observer)


def _is_observer(observer):
    """Whether this is a pair of a kind and of True or False, where it may be True."""
    if not isinstance(observer, tuple) or len(observer) != 2:
        return False
    kind, acting = observer
    # 1 equals True for Python, but it is no value of `acting`.
    if not isinstance(kind, str) or not isinstance(acting, bool):
        return False
    return kind in KINDS and (KINDS[kind] or not acting)


def sign(program, observer, before, act, spoken, behind):
    """The sign of an act that leads from `before` to `behind`, or None (point 41)."""
    kind, acting = observer
    noticed = act if acting and act[0] in DEEDS else ()
    thing = _thing(program, kind, before, spoken, behind)
    if noticed == () and thing == ():
        return None
    return noticed, thing


def _thing(program, kind, before, spoken, behind):
    """What one of this kind notices of an act besides the act itself (point 41)."""
    if kind == "listen":
        return spoken
    if kind == "watch":
        return _other(sight(program, before), sight(program, behind))
    if kind == "read":
        return _other(reading(program, before), reading(program, behind))
    return ()


def _other(before, behind):
    """What is behind if it differs from what was before, otherwise nothing."""
    return () if before == behind else behind


def final(program, observer, state):
    """What an observer knows at the end of a history that leads to the state (point 42)."""
    kind = observer[0]
    if kind in ("glance", "watch"):
        return sight(program, state)
    if kind in ("ask", "read"):
        return reading(program, state)
    return ()


def is_ready(first, second, state):
    """Whether a state is ready for two observers (point 43)."""
    _, _, queue = state
    return queue == () or (first[0] != "listen" and second[0] != "listen")
