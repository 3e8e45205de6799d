"""Points 2, 52, 53, 54, 60 and 61, with point 40, and what points 1 and 3 say of the judge."""

import inspect
import random
import unittest

from tests import judging, model, watching
from tests.judging import LAMP, PAIRS, PANEL
from tests.watching import OBSERVERS
from twoknowers import judge as judge_module
from twoknowers.errors import BadObserver, KnowError
from twoknowers.judge import (certificate, check, first_node, is_bad, judge, moves, next_node)
from twoknowers.knowledge import noticed, possible
from twoknowers.observers import is_ready
from twoknowers.program import Program
from twoknowers.screen import after, reached, start

NEXT, PRESS, SPEAK, TICK, POINT = ("next",), ("press",), ("speak",), ("tick", 0), ("point", 0)
GLANCE, ASK = ("glance", False), ("ask", False)
WATCH, READ, LISTEN = ("watch", False), ("read", False), ("listen", False)
WATCHER, READER, LISTENER = ("watch", True), ("read", True), ("listen", True)
WRONG = (("glance", True), ("ask", True), ("look", False), ("", True), ("Listen", False),
         (None, True), ("watch", 1), ("watch", 0), ("read", None), ("listen", ""), (True, "watch"))
# one part that has no press, and a lamp that is not live
ECHO = Program(sizes=(2,), parts=(((0, (4, 4)), (0, (0, 1)), None),))
MUTE = Program(sizes=LAMP.sizes, parts=LAMP.parts)
OFF, ON = ((0,), 0, ()), ((1,), 0, ())
OFF_SAID, ON_SAID = ((0,), 0, ((0, 0),)), ((1,), 0, ((0, 1),))


def some(many, seed, programs):
    """Pairs of observers, each with a program: all pairs for the first ones, then some."""
    chance = random.Random(seed)
    found = [(LAMP, pair) for pair in PAIRS] + [(PANEL, pair) for pair in PAIRS[::5]]
    return found + [(chance.choice(programs), chance.choice(PAIRS)) for _ in range(many)]


SMALL = judging.small(80, 81, 24)


class Interface(unittest.TestCase):
    def test_functions_and_arguments(self):
        listed = {
            "first_node": ["program", "first"], "moves": ["program", "second", "node"],
            "next_node": ["program", "first", "node", "move"],
            "is_bad": ["program", "first", "second", "node"],
            "judge": ["program", "first", "second", "limit"],
            "certificate": ["program", "first", "second", "limit"],
            "check": ["program", "first", "second", "rows"],
        }
        for name, arguments in listed.items():
            function = getattr(judge_module, name)
            self.assertEqual(list(inspect.signature(function).parameters), arguments)
            self.assertEqual(function.__module__, "twoknowers.judge")


class First(unittest.TestCase):
    def test_some_cases(self):
        self.assertEqual(first_node(LAMP, LISTENER), (OFF, (OFF,), OFF))
        self.assertEqual(first_node(LAMP, LISTEN), (OFF, (OFF, OFF_SAID, ON_SAID), OFF))
        self.assertEqual(first_node(LAMP, GLANCE),
                         (OFF, tuple(sorted(reached(LAMP, 100))), OFF))

    def test_compared_with_another_way(self):
        for program in SMALL + [LAMP, PANEL]:
            for first in OBSERVERS:
                self.assertEqual(first_node(program, first), judging.first_node(program, first))


class Moves(unittest.TestCase):
    def test_the_order(self):
        # the point and the press are told to one who acts, the speak to one who listens
        self.assertEqual(moves(LAMP, LISTEN, (ON_SAID, (), OFF_SAID)), [
            (1, POINT), (1, NEXT), (1, PRESS), (2, POINT), (2, NEXT), (2, PRESS)])
        self.assertEqual(moves(LAMP, LISTEN, (ON_SAID, (), ON_SAID)), [
            (1, POINT), (1, NEXT), (1, PRESS), (2, POINT), (2, NEXT), (2, PRESS),
            (3, SPEAK, SPEAK)])
        self.assertEqual(moves(LAMP, LISTENER, (ON_SAID, (), OFF_SAID)), [
            (3, POINT, POINT), (3, NEXT, NEXT), (3, PRESS, PRESS)])
        self.assertEqual(moves(LAMP, WATCHER, (ON_SAID, (), OFF)), [
            (1, SPEAK), (3, POINT, POINT), (3, NEXT, NEXT), (3, PRESS, PRESS)])
        self.assertEqual(moves(LAMP, GLANCE, (OFF, (), ON_SAID)), [
            (1, POINT), (1, NEXT), (1, PRESS),
            (2, POINT), (2, NEXT), (2, PRESS), (2, SPEAK)])

    def test_several_acts_with_one_sign(self):
        # one who reads hears the same of the point, the press and the next to the same reading
        self.assertEqual(moves(LAMP, READ, (OFF, (), OFF_SAID)), [
            (1, NEXT), (2, NEXT), (2, SPEAK),
            (3, POINT, POINT), (3, POINT, PRESS), (3, PRESS, POINT), (3, PRESS, PRESS)])
        self.assertEqual(moves(LAMP, READ, (OFF, (), ON)), [(1, NEXT), (2, NEXT)])

    def test_what_is_held_does_not_matter(self):
        for held in ((), (OFF,), (OFF, ON, ON_SAID)):
            self.assertEqual(moves(LAMP, READ, (OFF, held, ON)), [(1, NEXT), (2, NEXT)])

    def test_compared_with_another_way(self):
        chance = random.Random(82)
        for program in SMALL:
            states = reached(program, 100)
            for second in OBSERVERS:
                for _ in range(12):
                    node = chance.choice(states), (), chance.choice(states)
                    self.assertEqual(moves(program, second, node),
                                     judging.moves(program, second, node))


class Behind(unittest.TestCase):
    def test_one_history_goes_on(self):
        node = first_node(LAMP, LISTEN)
        held = (OFF, OFF_SAID, ON_SAID)
        self.assertEqual(next_node(LAMP, LISTEN, node, (1, PRESS)), (ON_SAID, held, OFF))
        self.assertEqual(next_node(LAMP, LISTEN, node, (2, NEXT)), (OFF, held, OFF_SAID))
        # the first observer is told of the press, though the second one need not be
        self.assertEqual(next_node(LAMP, LISTENER, first_node(LAMP, LISTENER), (1, PRESS)),
                         (ON_SAID, (ON_SAID,), OFF))
        # what the second history does is nothing to the first observer
        self.assertEqual(next_node(LAMP, LISTENER, first_node(LAMP, LISTENER), (2, PRESS)),
                         (OFF, (OFF,), ON_SAID))

    def test_both_go_on(self):
        node = ON_SAID, (OFF, OFF_SAID, ON_SAID), OFF_SAID
        # only the act of the first history tells the first observer something
        self.assertEqual(next_node(LAMP, LISTEN, node, (3, SPEAK, SPEAK)),
                         (ON, (OFF_SAID, ON, ON_SAID), OFF))
        self.assertEqual(next_node(LAMP, LISTEN, node, (3, SPEAK, NEXT)),
                         (ON, (OFF_SAID, ON, ON_SAID), OFF_SAID))
        self.assertEqual(next_node(LAMP, LISTEN, node, (3, NEXT, SPEAK)),
                         (ON_SAID, (OFF, OFF_SAID, ON_SAID), OFF))

    def test_compared_with_another_way(self):
        chance = random.Random(83)
        for program in SMALL:
            for first, second in chance.sample(PAIRS, 12):
                node = judging.first_node(program, first)
                for _ in range(8):
                    ways = moves(program, second, node)
                    for move in ways:
                        self.assertEqual(next_node(program, first, node, move),
                                         judging.next_node(program, first, node, move))
                    node = next_node(program, first, node, chance.choice(ways))

    def test_held_as_along_the_first_history(self):
        chance = random.Random(84)
        for program in SMALL[:12]:
            for first, second in chance.sample(PAIRS, 12):
                node, one, two = first_node(program, first), [], []
                for _ in range(8):
                    move = chance.choice(moves(program, second, node))
                    node = next_node(program, first, node, move)
                    one += judging.done_by(move)[0]
                    two += judging.done_by(move)[1]
                signs, state = watching.followed(program, first, one)
                told = [sign for sign in signs if sign is not None]
                other = watching.followed(program, first, two)[1]
                self.assertEqual(node, (state, watching.held(program, first, told), other))
                self.assertEqual(noticed(program, second, one)[0],
                                 noticed(program, second, two)[0])


class Bad(unittest.TestCase):
    def test_the_other_state_is_not_held(self):
        self.assertIs(is_bad(LAMP, READER, WATCH, (OFF, (OFF,), ON)), True)
        self.assertIs(is_bad(LAMP, READER, WATCH, (OFF, (OFF,), OFF)), False)
        self.assertIs(is_bad(LAMP, WATCHER, WATCH, (OFF, (OFF,), OFF_SAID)), True)
        self.assertIs(is_bad(LAMP, WATCHER, WATCH, (OFF, (OFF, OFF_SAID), OFF_SAID)), False)
        self.assertIs(is_bad(LAMP, WATCHER, WATCH, (OFF, (), OFF)), True)

    def test_the_first_observer_knows_something_else(self):
        # the state is held, but one who reads knows at the end that it is not this one
        self.assertIs(is_bad(LAMP, ASK, WATCH, (OFF, (OFF, ON), ON)), True)
        self.assertIs(is_bad(LAMP, GLANCE, WATCH, (OFF, (OFF, ON), ON)), False)
        self.assertIs(is_bad(LAMP, LISTEN, WATCH, (OFF, (OFF, ON), ON)), False)

    def test_the_second_observer_knows_something_else(self):
        for held in ((), (OFF,), (OFF, ON)):
            self.assertIs(is_bad(LAMP, READ, ASK, (OFF, held, ON)), False)
            self.assertIs(is_bad(LAMP, READ, READER, (OFF, held, ON)), False)
            self.assertIs(is_bad(LAMP, READ, GLANCE, (OFF, held, ON)), True)

    def test_states_that_are_not_ready(self):
        for listener in (LISTEN, LISTENER):
            self.assertIs(is_bad(LAMP, listener, WATCH, (OFF, (OFF,), ON)), True)
            self.assertIs(is_bad(LAMP, READ, listener, (OFF, (OFF,), ON)), True)
            for one, two in ((OFF, ON_SAID), (OFF_SAID, ON), (OFF_SAID, ON_SAID)):
                self.assertIs(is_bad(LAMP, listener, WATCH, (one, (OFF,), two)), False)
                self.assertIs(is_bad(LAMP, READ, listener, (one, (OFF,), two)), False)
                self.assertIs(is_bad(LAMP, READ, WATCH, (one, (OFF,), two)), True)

    def test_compared_with_another_way(self):
        chance, counts = random.Random(85), {True: 0, False: 0}
        for program in SMALL:
            states = reached(program, 100)
            for first, second in PAIRS:
                for _ in range(3):
                    held = sorted(chance.sample(states, chance.randint(0, len(states))))
                    node = chance.choice(states), tuple(held), chance.choice(states)
                    found = is_bad(program, first, second, node)
                    self.assertIs(found, judging.is_bad(program, first, second, node))
                    counts[found] += 1
        self.assertGreater(min(counts.values()), 500)


class Verdicts(unittest.TestCase):
    def test_some_cases(self):
        # one who watches sees nothing of the lamp, and one who reads hears of it
        self.assertEqual(judge(LAMP, ASK, WATCH, 100), ("does not", [POINT], []))
        self.assertEqual(judge(LAMP, WATCH, ASK, 100)[0], "tells")
        # one who acts knows whether it was pressed; without the act it may have been
        self.assertEqual(judge(LAMP, WATCHER, WATCH, 100), ("does not", [POINT], []))
        self.assertEqual(judge(LAMP, GLANCE, GLANCE, 100)[0], "tells")
        # a live lamp says each change, one that is not live says nothing
        self.assertEqual(judge(LAMP, ASK, LISTEN, 100), ("tells", 14))
        self.assertEqual(judge(MUTE, ASK, LISTEN, 100), ("does not", [POINT], []))
        # one who hears both parts named does not hear which one has the focus
        self.assertEqual(judge(PANEL, ASK, LISTEN, 500), (
            "does not", [NEXT, TICK, SPEAK], [TICK, SPEAK]))

    def test_all_three_kinds_with_all_limits(self):
        counts = {}
        for program, (first, second) in some(60, 86, SMALL):
            nodes = judging.Nodes(program, first, second, 120)
            least = min(nodes.bad() + [len(nodes.found)])
            for limit in {1, 2, least // 2, least - 1, least, least + 1, 120} & set(range(1, 121)):
                found = judge(program, first, second, limit)
                self.assertEqual(found, nodes.verdict(limit))
                self.assertIs(type(found), tuple)
                counts[found[0]] = counts.get(found[0], 0) + 1
        self.assertGreater(min(counts["tells"], counts["many"], counts["does not"]), 40)

    def test_the_least_limit_that_suffices(self):
        for program, pair in some(20, 87, SMALL):
            found = judge(program, *pair, 100000)
            if found[0] != "tells":
                continue
            self.assertEqual(judge(program, *pair, found[1]), found)
            if found[1] > 1:
                self.assertEqual(judge(program, *pair, found[1] - 1), ("many",))

    def test_a_bad_node_that_is_met_when_there_are_enough(self):
        seen = 0
        for program, (first, second) in some(60, 88, SMALL):
            nodes = judging.Nodes(program, first, second, 120)
            bad = (nodes.bad() + [0])[0]
            if bad < 2:
                continue
            seen += 1
            self.assertEqual(judge(program, first, second, bad)[0], "does not")
            self.assertEqual(judge(program, first, second, bad - 1), ("many",))
        self.assertGreater(seen, 8)

    def test_kinds_of_values(self):
        word, one, two = judge(LAMP, ASK, WATCH, 100)
        self.assertEqual((type(one), type(two), type(one[0])), (list, list, tuple))
        one.clear()
        two.append(NEXT)
        self.assertEqual(judge(LAMP, ASK, WATCH, 100), ("does not", [POINT], []))


class Meaning(unittest.TestCase):
    """Point 2, by all histories up to a length."""

    def grouped(self, program, first, second, long):
        """The histories that are alike for the second observer and end in ready states."""
        groups = {}
        for run, state in watching.histories(program, long):
            if not is_ready(first, second, state):
                continue
            signs = watching.followed(program, second, run)[0]
            told = tuple(sign for sign in signs if sign is not None)
            known = watching.seen_by(second, model.Screen(program, state))
            groups.setdefault((told, known), []).append((run, state, len(run) - len(told)))
        return groups

    def least(self, program, first, second, long):
        """The least length of two histories that show a state that is not possible, if any."""
        kept, found = {}, []
        for (told, _), rows in self.grouped(program, first, second, long).items():
            for run, state, silent in rows:
                signs = watching.followed(program, first, run)[0]
                key = (tuple(sign for sign in signs if sign is not None),
                       watching.seen_by(first, model.Screen(program, state)))
                if key not in kept:
                    kept[key] = {each for each in watching.held(program, first, key[0])
                                 if watching.seen_by(first, model.Screen(program, each)) == key[1]}
                found += [len(told) + silent + more for _, other, more in rows
                          if other not in kept[key]]
        return min(found, default=None)

    def test_by_all_short_histories(self):
        counts = {"tells": 0, "does not": 0}
        programs = [program for program in SMALL
                    if len(watching.histories(program, 3)) <= 150][:14]
        for program in [LAMP] + programs:
            for first, second in PAIRS:
                found = judge(program, first, second, 5000)
                if found[0] == "many":
                    continue
                least = self.least(program, first, second, 3)
                counts[found[0]] += 1
                if found[0] == "tells":
                    self.assertIsNone(least)
                    continue
                told = noticed(program, second, found[1])[0]
                length = len(found[1]) + len(found[2]) - len(told)
                # with at most three acts on each side all that are that short are found
                self.assertEqual(least if length <= 3 else length, length)
                self.assertTrue(least is None or least >= length)
        self.assertGreater(min(counts.values()), 150)

    def test_the_histories_of_does_not(self):
        seen = 0
        for program, (first, second) in some(300, 89, SMALL):
            found = judge(program, first, second, 3000)
            if found[0] != "does not":
                continue
            seen += 1
            _, one, two = found
            self.assertEqual(noticed(program, second, one), noticed(program, second, two))
            states = [self.behind(program, run) for run in (one, two)]
            self.assertTrue(all(is_ready(first, second, state) for state in states))
            self.assertNotIn(states[1], possible(program, first, one))
            self.assertIn(states[0], possible(program, first, one))
        self.assertGreater(seen, 60)

    def behind(self, program, run):
        state = start(program)
        for act in run:
            state, _ = after(program, state, act)
        return state

    def test_an_observer_tells_all_that_it_can_tell(self):
        for program in SMALL[:12] + [LAMP]:
            for observer in OBSERVERS:
                self.assertIn(judge(program, observer, observer, 400)[0], ("tells", "many"))


class Certificates(unittest.TestCase):
    def test_exactly_where_the_verdict_is_tells(self):
        seen = 0
        for program, (first, second) in some(60, 90, SMALL):
            nodes = judging.Nodes(program, first, second, 120)
            for limit in {1, len(nodes.found) - 1, len(nodes.found), 120} & set(range(1, 121)):
                rows = certificate(program, first, second, limit)
                verdict = judge(program, first, second, limit)
                if verdict[0] != "tells":
                    self.assertIsNone(rows)
                    continue
                seen += 1
                self.assertEqual(rows, nodes.rows())
                self.assertEqual(len(rows), verdict[1])
                self.assertIs(check(program, first, second, rows), True)
        self.assertGreater(seen, 60)

    def test_rows(self):
        both = OFF, OFF_SAID
        self.assertEqual(certificate(ECHO, WATCH, READER, 4), [
            (OFF, both, OFF, (1,)),
            (OFF_SAID, both, OFF_SAID, (2, 3, 1)),
            (OFF, both, OFF_SAID, (0, 1)),
            (OFF_SAID, both, OFF, (0, 1)),
        ])
        self.assertIsNone(certificate(ECHO, WATCH, READER, 3))
        self.assertIsNone(certificate(ECHO, WATCHER, READ, 100))

    def test_kinds_of_values(self):
        rows = certificate(LAMP, WATCH, ASK, 100)
        self.assertIs(type(rows), list)
        for row in rows:
            self.assertEqual([type(each) for each in row], [tuple] * 4)
        text = repr(rows)
        rows.clear()
        self.assertEqual(repr(certificate(LAMP, WATCH, ASK, 100)), text)


class Observers(unittest.TestCase):
    def refused(self, value, first, second):
        calls = (lambda: judge(LAMP, first, second, 1),
                 lambda: certificate(LAMP, first, second, 1),
                 lambda: check(LAMP, first, second, []),
                 lambda: check(LAMP, first, second, [((), (), (), ())]))
        for call in calls:
            with self.assertRaises(BadObserver) as caught:
                call()
            self.assertIs(caught.exception.value, value)
            self.assertIsInstance(caught.exception, KnowError)

    def test_observers_that_are_none(self):
        for wrong in WRONG:
            for right in OBSERVERS:
                self.refused(wrong, wrong, right)
                self.refused(wrong, right, wrong)
            for other in WRONG:
                self.refused(wrong, wrong, other)


class Purity(unittest.TestCase):
    def test_nothing_is_modified(self):
        before = repr(vars(PANEL))
        node = first_node(PANEL, WATCH)
        text = repr(node)
        for first, second in PAIRS:
            found = moves(PANEL, second, node)
            again = repr(found)
            for move in found:
                next_node(PANEL, first, node, move)
            found.clear()
            self.assertEqual(repr(moves(PANEL, second, node)), again)
            is_bad(PANEL, first, second, node)
            judge(PANEL, first, second, 50)
        self.assertEqual((repr(vars(PANEL)), repr(node)), (before, text))


if __name__ == "__main__":
    unittest.main()
