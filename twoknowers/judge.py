"""The judge: whether one observer can tell what another one can (points 52 to 54, 60 to 62)."""

from twoknowers.held import Holder, Steps, first_held
from twoknowers.observers import final, is_ready, require_observer
from twoknowers.screen import start


def first_node(program, first):
    """The first node (point 52)."""
    return start(program), first_held(program, first), start(program)


def moves(program, second, node):
    """The moves of a node, in their order (point 53)."""
    return _moves(Steps(program, second), node)


def next_node(program, first, node, move):
    """The node behind a move of the node."""
    state, held, other = node
    holder = Holder(program, first)
    return _with_held(holder, _behind(holder, (state, holder.number_of(held), other), move))


def is_bad(program, first, second, node):
    """Whether a node is bad (point 54)."""
    state, held, other = node
    return _is_bad(program, first, second, state, other, other in held)


def judge(program, first, second, limit):
    """The verdict (point 60); BadObserver is raised."""
    require_observer(first)
    require_observer(second)
    return Search(Nodes(program, first, second)).verdict(limit)


def certificate(program, first, second, limit):
    """The rows of all nodes if the verdict is "tells", otherwise None (point 61)."""
    require_observer(first)
    require_observer(second)
    search = Search(Nodes(program, first, second))
    verdict = search.verdict(limit)
    return search.written_rows() if verdict[0] == "tells" else None


def check(program, first, second, rows):
    """Whether the checker accepts the rows (point 62)."""
    require_observer(first)
    require_observer(second)
    if not rows:
        return False
    nodes = Nodes(program, first, second)
    # The node that each row has to be, once the targets of an earlier row tell it. No act is
    # done in a state that stands in a row only: such a state may be anything.
    named = {0: nodes.first_one()}
    for at, row in enumerate(rows):
        if at not in named or not nodes.is_written(named[at], row[:3]):
            return False
        if nodes.is_bad(named[at]):
            return False
        behind = [nodes.behind(named[at], move) for move in nodes.moves(named[at])]
        if not _are_targets(row[3], len(behind), len(rows)):
            return False
        for target, node in zip(row[3], behind):
            if named.setdefault(target, node) != node:
                return False
    return True


def _are_targets(targets, many, below):
    """Whether these are so many numbers from 0 on that are below this one."""
    return len(targets) == many and all(_is_target(target, below) for target in targets)


def _is_target(target, below):
    """Whether this is a number from 0 on that is below this one."""
    # For Python, True and False are integers; point 3 says that they are not numbers.
    return isinstance(target, int) and not isinstance(target, bool) and 0 <= target < below


class Nodes:
    """The nodes for a program and two observers, with numbers for what the first one holds."""

    def __init__(self, program, first, second):
        self.program = program
        self.observers = (first, second)
        self.holder = Holder(program, first)
        self.steps = Steps(program, second)
        self.texts = {}

    def first_one(self):
        """The first node."""
        return start(self.program), self.holder.at_start(), start(self.program)

    def moves(self, node):
        """The moves of a node."""
        return _moves(self.steps, node)

    def behind(self, node, move):
        """The node behind a move."""
        return _behind(self.holder, node, move)

    def is_bad(self, node):
        """Whether a node is bad."""
        state, number, other = node
        first, second = self.observers
        is_held = self.holder.holds(number, other)
        return _is_bad(self.program, first, second, state, other, is_held)

    def written_out(self, node):
        """The node with the states that are held."""
        return _with_held(self.holder, node)

    def is_written(self, node, parts):
        """Whether the first three parts of a row are this node."""
        if parts != self.written_out(node):
            return False
        # For Python, True equals 1, but it is no number (point 3); written out, they differ.
        state, number, other = node
        if repr(parts[0]) != repr(state) or repr(parts[2]) != repr(other):
            return False
        if number not in self.texts:
            self.texts[number] = repr(self.holder.tuples[number])
        return repr(parts[1]) == self.texts[number]


class Search:
    """The nodes that the judge meets, in the order of their numbers (point 60)."""

    def __init__(self, nodes):
        self.nodes = nodes
        self.met = []
        self.numbers = {}
        # For each number the number of an earlier node and the move by which it was met.
        self.ways = []
        self.targets = []

    def verdict(self, limit):
        """Meets the nodes; the verdict is returned."""
        found = self._meet(self.nodes.first_one(), None, limit)
        while found is None and len(self.targets) < len(self.met):
            found = self._take(len(self.targets), limit)
        return ("tells", len(self.met)) if found is None else found

    def _take(self, number, limit):
        """Meets the nodes behind the moves of a node; a verdict is returned, or None."""
        node = self.met[number]
        targets = []
        for move in self.nodes.moves(node):
            behind = self.nodes.behind(node, move)
            if behind not in self.numbers:
                found = self._meet(behind, (number, move), limit)
                if found is not None:
                    return found
            targets.append(self.numbers[behind])
        self.targets.append(tuple(targets))
        return None

    def _meet(self, node, way, limit):
        """Gives a new node the next number, or returns a verdict."""
        if self.nodes.is_bad(node):
            one, two = _histories(self._moves_to(way))
            return "does not", one, two
        if len(self.met) >= limit:
            return ("many",)
        self.numbers[node] = len(self.met)
        self.met.append(node)
        self.ways.append(way)
        return None

    def _moves_to(self, way):
        """The moves from the first node on that end with this way."""
        found = []
        while way is not None:
            number, move = way
            found.append(move)
            way = self.ways[number]
        return found[::-1]

    def written_rows(self):
        """The rows of the certificate, once the verdict is "tells" (point 61)."""
        found = []
        for node, targets in zip(self.met, self.targets):
            state, held, other = self.nodes.written_out(node)
            found.append((state, held, other, targets))
        return found


def _histories(path):
    """The two histories that these moves make."""
    one = [move[1] for move in path if move[0] != 2]
    two = [move[-1] for move in path if move[0] != 1]
    return one, two


def _moves(steps, node):
    """The moves of a node, with the steps of the second observer (point 53)."""
    state, _, other = node
    here = steps.leads(state)
    there = steps.leads(other)
    found = [(1, act) for act, (told, _) in here.items() if told is None]
    found.extend([(2, act) for act, (told, _) in there.items() if told is None])
    found.extend([(3, act, other_act)
                  for act, (told, _) in here.items() if told is not None
                  for other_act, (same, _) in there.items() if same == told])
    return found


def _behind(holder, node, move):
    """The node behind a move; what is held stands as its number in both."""
    state, number, other = node
    if move[0] != 2:
        told, state = holder.steps.leads(state)[move[1]]
        number = holder.behind(number, told)
    if move[0] != 1:
        _, other = holder.steps.leads(other)[move[-1]]
    return state, number, other


def _with_held(holder, node):
    """The node with the states that are held in place of their number."""
    state, number, other = node
    return state, holder.tuples[number], other


def _is_bad(program, first, second, state, other, is_held):
    """Whether a node is bad, once it is known whether its other state is held (point 54)."""
    if not is_ready(first, second, state) or not is_ready(first, second, other):
        return False
    if final(program, second, state) != final(program, second, other):
        return False
    return not is_held or final(program, first, state) != final(program, first, other)
