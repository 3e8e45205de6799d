"""Programs as texts: how they are written and read (points 30 to 33)."""

from twoknowers.errors import BadLine
from twoknowers.program import MOST_PARTS, MOST_TICKS, Program
from twoknowers.program import are_changes, are_indexes, are_sizes, is_shown

# `isdigit` and `int` take digits of other scripts, too; a text has only these ten.
NUMBERS = {"0": 0, "1": 1, "2": 2, "3": 3, "4": 4, "5": 5, "6": 6, "7": 7, "8": 8, "9": 9}


def write_program(program):
    """The text of a program (points 30 and 31)."""
    lines = [_line("sizes", program.sizes)]
    for part in program.parts:
        lines.extend(_part_lines(part))
    lines.extend([_changes_line("tick", changes) for changes in program.ticks])
    if program.live:
        lines.append(_line("live", program.live))
    if program.skips:
        lines.append(_line("skips", program.skips))
    return "".join(lines)


def _line(kind, numbers):
    """The line with this first word and these numbers."""
    words = [kind] + [str(number) for number in numbers]
    return " ".join(words) + "\n"


def _part_lines(part):
    """The lines of a part."""
    look, word, press = part
    lines = [_line("part", ()), _shown_line("look", look), _shown_line("word", word)]
    if press is not None:
        lines.append(_changes_line("press", press))
    return lines


def _shown_line(kind, pair):
    """The line of a look or a word."""
    variable, table = pair
    return _line(kind, (variable, *table))


def _changes_line(kind, changes):
    """The line of a press or a tick."""
    return _line(kind, [number for change in changes for number in change])


class Lines:
    """The lines of a text, which are taken one after the other."""

    def __init__(self, text):
        # Only a line feed ends a line; `splitlines` would end lines at other characters, too.
        rows = text.split("\n")
        self.tail = rows.pop()
        self.rows = rows
        self.taken = 0

    def words(self):
        """The words of the next line; one empty word if there is none."""
        # No line of a program is empty, so an empty one may stand for one that is missing.
        line = self.rows[self.taken] if self.taken < len(self.rows) else ""
        return line.split(" ")

    def sees(self, kind):
        """Whether this is the first word of the next line."""
        return self.words()[0] == kind

    def take(self, kind):
        """The numbers of the next line, which has to be of this kind; BadLine is raised."""
        words = self.words()
        self.taken += 1
        if words[0] != kind or any(word not in NUMBERS for word in words[1:]):
            raise BadLine(self.taken)
        return tuple([NUMBERS[word] for word in words[1:]])

    def finish(self):
        """Raises BadLine if something stands behind the lines that were taken."""
        if self.taken < len(self.rows) or self.tail != "":
            raise BadLine(self.taken + 1)


def parse_program(text):
    """The program whose text this is; BadLine(number) is raised (point 33)."""
    lines = Lines(text)
    sizes = _take_sizes(lines)
    parts = [_take_part(lines, sizes)]
    while len(parts) < MOST_PARTS and lines.sees("part"):
        parts.append(_take_part(lines, sizes))
    ticks = []
    while len(ticks) < MOST_TICKS and lines.sees("tick"):
        ticks.append(_take_changes(lines, "tick", sizes))
    live = _take_indexes(lines, "live", len(parts))
    skips = _take_indexes(lines, "skips", len(parts))
    lines.finish()
    return Program(sizes=sizes, parts=tuple(parts), ticks=tuple(ticks), live=live, skips=skips)


def _take_sizes(lines):
    """The sizes of the variables."""
    sizes = lines.take("sizes")
    if not are_sizes(sizes):
        raise BadLine(lines.taken)
    return sizes


def _take_part(lines, sizes):
    """A part, from its three or four lines."""
    if lines.take("part") != ():
        raise BadLine(lines.taken)
    look = _take_shown(lines, "look", sizes)
    word = _take_shown(lines, "word", sizes)
    press = _take_changes(lines, "press", sizes) if lines.sees("press") else None
    return look, word, press


def _take_shown(lines, kind, sizes):
    """The pair of a look or a word."""
    numbers = lines.take(kind)
    if numbers == () or not is_shown(sizes, (numbers[0], numbers[1:])):
        raise BadLine(lines.taken)
    return numbers[0], numbers[1:]


def _take_changes(lines, kind, sizes):
    """The changes of a press or a tick."""
    numbers = lines.take(kind)
    changes = tuple([(numbers[at - 1], numbers[at]) for at in range(1, len(numbers), 2)])
    if len(numbers) != 2 * len(changes) or not are_changes(sizes, changes):
        raise BadLine(lines.taken)
    return changes


def _take_indexes(lines, kind, many):
    """The indexes of live or of skipped parts; none if there is no such line."""
    if not lines.sees(kind):
        return ()
    indexes = lines.take(kind)
    if indexes == () or not are_indexes(many, indexes):
        raise BadLine(lines.taken)
    return indexes
