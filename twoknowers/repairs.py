"""Repairs: changes of a program, and the cheapest ones that help (points 80 to 82)."""

from heapq import heappop, heappush

from twoknowers.judge import judge
from twoknowers.keys import first_keyless
from twoknowers.program import Program
from twoknowers.says import first_stale, first_unsaid

# What the first word of a verdict or of an answer says to a want (point 81).
ANSWERS = {"tells": "yes", "does not": "no", "never": "yes", "run": "no", "many": "many"}


def repaired(program, offers, row):
    """The program of a row of offers (point 80)."""
    parts, live, skips = program.parts, program.live, program.skips
    for index in row:
        _, change = offers[index]
        kind, part = change[0], change[1]
        if kind == "live":
            live = tuple(sorted(_without(live, part) + (part,)))
        elif kind == "mute":
            live = _without(live, part)
        elif kind == "reach":
            skips = _without(skips, part)
        else:
            parts = _with_pair(parts, change)
    return Program(sizes=program.sizes, parts=parts, ticks=program.ticks, live=live, skips=skips)


def _without(indexes, part):
    """The indexes without that of this part."""
    return tuple([index for index in indexes if index != part])


def _with_pair(parts, change):
    """The parts behind a change of the word or the look of one of them."""
    kind, at, pair = change
    look, word, press = parts[at]
    changed = (pair, word, press) if kind == "look" else (look, pair, press)
    return (*parts[:at], changed, *parts[at + 1:])


def repair(program, offers, wants, limit):
    """The first row that helps, or None, and the rows that may help (point 82)."""
    open_rows = []
    answers = {}
    # A row that is longer by an offer costs no less, so it comes behind the one that it is made
    # of, and the least row that waits is the least one of all that are left.
    waiting = [(0, 0, ())]
    while waiting:
        cost, many, row = heappop(waiting)
        for index in range(row[-1] + 1 if row else 0, len(offers)):
            heappush(waiting, (cost + offers[index][0], many + 1, (*row, index)))
        changed = repaired(program, offers, row)
        # Many rows make the same program, as a change to what is so already changes nothing.
        key = (changed.parts, changed.live, changed.skips)
        if key not in answers:
            answers[key] = _answer_to_all(changed, wants, limit)
        if answers[key] == "yes":
            return row, open_rows
        if answers[key] == "many":
            open_rows.append(row)
    return None, open_rows


def _answer_to_all(program, wants, limit):
    """The answer "no" if one want has it, "yes" if all have it, and otherwise "many"."""
    found = "yes"
    for want in wants:
        answer = _answer_to(program, want, limit)
        if answer == "no":
            return "no"
        if answer == "many":
            found = "many"
    return found


def _answer_to(program, want, limit):
    """The answer of a want for a program (point 81)."""
    kind = want[0]
    if kind == "tells":
        found = judge(program, want[1], want[2], limit)
    elif kind == "keys":
        found = first_keyless(program, limit)
    elif kind == "fresh":
        found = first_stale(program, limit)
    else:
        found = first_unsaid(program, limit)
    return ANSWERS[found[0]]
