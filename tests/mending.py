"""Points 80 to 82 told a second time, with all rows written down ahead."""

import itertools

from tests import finding, judging
from twoknowers.program import Program


def rows(offers):
    """All rows of offers, in the order of point 82."""
    found = [row for many in range(len(offers) + 1)
             for row in itertools.combinations(range(len(offers)), many)]
    return sorted(found, key=lambda row: (sum(offers[at][0] for at in row), len(row), row))


def repaired(program, offers, row):
    """The program of a row, made from its parts as lists."""
    parts = [list(part) for part in program.parts]
    live, skips = set(program.live), set(program.skips)
    for at in row:
        kind, part, *pair = offers[at][1]
        if kind in ("look", "word"):
            parts[part][("look", "word").index(kind)] = pair[0]
        elif kind == "live":
            live |= {part}
        elif kind == "mute":
            live -= {part}
        else:
            skips -= {part}
    return Program(sizes=program.sizes, parts=tuple(tuple(part) for part in parts),
                   ticks=program.ticks, live=tuple(sorted(live)), skips=tuple(sorted(skips)))


def answer(program, want, limit):
    if want[0] == "tells":
        word = judging.Nodes(program, want[1], want[2], limit).verdict(limit)[0]
    else:
        is_wanted = {"keys": finding.is_keyless, "fresh": finding.is_stale,
                     "said": finding.is_unsaid}[want[0]]
        word = finding.Search(program, is_wanted).answer(limit)[0]
    return {"tells": "yes", "never": "yes", "many": "many"}.get(word, "no")


def repair(program, offers, wants, limit):
    open_rows = []
    for row in rows(offers):
        changed = repaired(program, offers, row)
        answers = {answer(changed, want, limit) for want in wants}
        if answers <= {"yes"}:
            return row, open_rows
        if "no" not in answers:
            open_rows.append(row)
    return None, open_rows
