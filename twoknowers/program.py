"""Programs: what they are made of, and which ones are refused (points 10 to 14)."""

from twoknowers.errors import BadProgram

MOST_PARTS = 4
MOST_TICKS = 2


class Program:
    """An interface: variables, parts of a screen, ticks, live parts and skipped parts."""

    def __init__(self, *, sizes, parts, ticks=(), live=(), skips=()):
        # Sizes come first, then parts: what is checked behind them relies on both.
        if not are_sizes(sizes):
            raise BadProgram("sizes")
        if not _are_parts(sizes, parts):
            raise BadProgram("parts")
        if not _are_ticks(sizes, ticks):
            raise BadProgram("ticks")
        if not are_indexes(len(parts), live):
            raise BadProgram("live")
        if not are_indexes(len(parts), skips):
            raise BadProgram("skips")
        self.sizes = sizes
        self.parts = parts
        self.ticks = ticks
        self.live = live
        self.skips = skips


def _is_number(found, low, high):
    """Whether this is a number from `low` to `high`."""
    # For Python, True and False are integers; point 3 says that they are not numbers.
    if isinstance(found, bool) or not isinstance(found, int):
        return False
    return low <= found <= high


def are_sizes(sizes):
    """Whether these are the sizes of 1 to 3 variables (point 10)."""
    return 1 <= len(sizes) <= 3 and all(_is_number(size, 2, 4) for size in sizes)


def _are_parts(sizes, parts):
    """Whether these are 1 to 4 parts (point 11)."""
    return 1 <= len(parts) <= MOST_PARTS and all(_is_part(sizes, part) for part in parts)


def _is_part(sizes, part):
    """Whether this is a part with a look, a word, and a press or none (point 11)."""
    look, word, press = part
    if not is_shown(sizes, look) or not is_shown(sizes, word):
        return False
    return press is None or are_changes(sizes, press)


def is_shown(sizes, pair):
    """Whether this is a variable with a number for each of its values (point 11)."""
    variable, table = pair
    if not _is_number(variable, 0, len(sizes) - 1):
        return False
    return len(table) == sizes[variable] and all(_is_number(entry, 0, 7) for entry in table)


def are_changes(sizes, changes):
    """Whether these are 1 to 3 changes (point 12)."""
    return 1 <= len(changes) <= 3 and all(_is_change(sizes, change) for change in changes)


def _is_change(sizes, change):
    """Whether this is a variable with what is added to it (point 12)."""
    variable, add = change
    return _is_number(variable, 0, len(sizes) - 1) and _is_number(add, 1, 3)


def _are_ticks(sizes, ticks):
    """Whether these are 0 to 2 ticks (point 13)."""
    return len(ticks) <= MOST_TICKS and all(are_changes(sizes, tick) for tick in ticks)


def are_indexes(many, indexes):
    """Whether these are indexes of `many` things, each at most once, ascending (point 13)."""
    low = 0
    for index in indexes:
        if not _is_number(index, low, many - 1):
            return False
        low = index + 1
    return True
