"""Points 30 to 33 told a second time: which lines may follow which, by patterns."""

import itertools
import re

KINDS = {"sizes": "s", "part": "p", "look": "l", "word": "w", "press": "r", "tick": "t",
         "live": "v", "skips": "k"}


def orders():
    """The orders of the lines of all programs, a letter for each line."""
    found = []
    for many in (1, 2, 3, 4):
        for parts in itertools.product(("plw", "plwr"), repeat=many):
            for rest in itertools.product(("", "t", "tt"), ("", "v"), ("", "k")):
                found.append("s" + "".join(parts) + "".join(rest))
    return found


WHOLE = set(orders())
BEGUN = {order[:long] for order in WHOLE for long in range(len(order) + 1)}


def order_of(lines):
    return "".join(KINDS.get(line.partition(" ")[0], "?") for line in lines)


def is_right(before, line):
    """Whether a text of a program has this line behind these lines, which one has."""
    if order_of(before + [line]) not in BEGUN:
        return False
    sizes = [int(size) for size in (before + [line])[0][6:].split(" ") if size in ("2", "3", "4")]
    change = f"( [0-{len(sizes) - 1}] [1-3])" + "{1,3}"
    shown = "|".join(f" {at}( [0-7]){{{size}}}" for at, size in enumerate(sizes)) or "-"
    last = before.count("part") - 1
    some = "".join(f"( {at})?" for at in range(last + 1))
    pattern = {"s": "( [2-4]){1,3}", "p": "", "l": shown, "w": shown, "r": change, "t": change,
               "v": f"(?=.){some}", "k": f"(?=.){some}"}[order_of([line])]
    return re.fullmatch(f"[a-z]+({pattern})", line) is not None


def bad_line(text):
    """The number that BadLine has for this text, or None if it is the text of a program."""
    before = []
    rest = text
    while "\n" in rest:
        line, _, rest = rest.partition("\n")
        if not is_right(before, line):
            return len(before) + 1
        before.append(line)
    if rest or order_of(before) not in WHOLE:
        return len(before) + 1
    return None


def worse(text, chance):
    """The text with one thing in it changed, left out, doubled or moved."""
    lines = text.split("\n")
    at, to = chance.randrange(len(lines)), chance.randrange(len(lines))
    spot = chance.randrange(len(text) + 1)
    char = chance.choice("0123456789 \n %\t-+abspltk\u0663\xa0\r\x0b\x0c\x1c\x85\u2028")
    words = lines[at].split(" ")
    which = chance.randrange(len(words))
    ways = (
        lambda: text[:spot] + char + text[spot:],
        lambda: text[:spot] + char + text[spot + 1:],
        lambda: text[:spot] + text[spot + 1:],
        lambda: text[:spot],
        lambda: "\n".join(lines[:at] + lines[at + 1:]),
        lambda: "\n".join(lines[:at] + lines[at:at + 1] * 2 + lines[at + 1:]),
        lambda: "\n".join(lines[:to] + lines[at:at + 1] + lines[to:]),
        lambda: "\n".join(lines[:to] + lines[at:at + 1] + lines[to + 1:]),
        lambda: "\n".join(lines[:at] + [" ".join(words[:which] + words[which + 1:])]
                          + lines[at + 1:]),
        lambda: "\n".join(lines[:at] + [" ".join(words + words[which:])] + lines[at + 1:]),
        lambda: "\n".join(lines[:at] + [" ".join(words[:which] + [chance.choice("0123456789")]
                                                 + words[which + 1:])] + lines[at + 1:]),
    )
    return chance.choice(ways)()
