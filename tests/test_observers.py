"""Points 40 to 43, and what points 3 and 4 say of observers."""

import inspect
import random
import unittest

from tests import model, watching
from tests.watching import OBSERVERS
from twoknowers import observers
from twoknowers.errors import BadObserver
from twoknowers.observers import final, is_ready, require_observer, sign
from twoknowers.program import Program
from twoknowers.screen import acts, after, reached, reading, sight, start

NEXT, PRESS, SPEAK = ("next",), ("press",), ("speak",)
# Four parts, whose presses change the look, the word, neither and both of part 0.
SHOWN = ((0, (1, 2)), (1, (3, 4)))
MIXED = Program(sizes=(2, 2, 2), parts=((*SHOWN, ((0, 1),)), (*SHOWN, ((1, 1),)),
                                        (*SHOWN, ((2, 1),)), (*SHOWN, ((0, 1), (1, 1)))),
                ticks=(((0, 1),), ((1, 1),)), live=(0,))
NEITHER = Program(sizes=(2, 2), parts=(((0, (1, 2)), (0, (3, 4)), None),), ticks=(((1, 1),),))
SIGHT, READING = ((2,) * 4 + (0,)), ((4,) * 4 + (0,))


def signs(program, run):
    """What each observer is told of the last act of the run, by the observer."""
    state = start(program)
    for act in run[:-1]:
        state, _ = after(program, state, act)
    behind, spoken = after(program, state, run[-1])
    return {observer: sign(program, observer, state, run[-1], spoken, behind)
            for observer in OBSERVERS}


class Interface(unittest.TestCase):
    def test_functions_and_arguments(self):
        listed = {
            "sign": ["program", "observer", "before", "act", "spoken", "behind"],
            "final": ["program", "observer", "state"], "is_ready": ["first", "second", "state"],
        }
        for name, arguments in listed.items():
            function = getattr(observers, name)
            self.assertEqual(list(inspect.signature(function).parameters), arguments)
            self.assertEqual(function.__module__, "twoknowers.observers")


class Signs(unittest.TestCase):
    def told(self, program, run, acting=(), watch=(), read=(), listen=()):
        """Checks the signs of the last act, by what is noticed of it."""
        things = {"glance": (), "watch": watch, "ask": (), "read": read, "listen": listen}
        for observer, found in signs(program, run).items():
            with self.subTest(run=run, observer=observer):
                pair = (acting if observer[1] else ()), things[observer[0]]
                self.assertEqual(found, None if pair == ((), ()) else pair)

    def test_the_sight_alone(self):
        self.told(MIXED, [("point", 0)], acting=("point", 0), watch=SIGHT)
        self.told(MIXED, [PRESS], acting=PRESS, watch=SIGHT)
        self.told(MIXED, [("tick", 0)], watch=SIGHT)

    def test_the_reading_alone(self):
        self.told(MIXED, [("point", 1)], acting=("point", 1), read=READING)
        self.told(MIXED, [NEXT, PRESS], acting=PRESS, read=(4, 4, 4, 4, 1))
        self.told(MIXED, [("tick", 1)], read=READING)

    def test_both(self):
        self.told(MIXED, [("point", 3)], acting=("point", 3), watch=SIGHT, read=READING)
        self.told(MIXED, [NEXT], acting=NEXT, watch=(1, 1, 1, 1, 1), read=(3, 3, 3, 3, 1))

    def test_neither(self):
        self.told(MIXED, [("point", 2)], acting=("point", 2))
        self.told(MIXED, [NEXT, NEXT, PRESS], acting=PRESS)
        self.told(NEITHER, [("tick", 0)])
        # the focus stays
        self.told(NEITHER, [NEXT], acting=NEXT)

    def test_speaking(self):
        self.told(MIXED, [NEXT, SPEAK], listen=(1, 3))
        self.told(MIXED, [("tick", 1), SPEAK], listen=(0, 4))
        # a stale one, and the oldest of two
        self.told(MIXED, [NEXT, NEXT, ("tick", 1), SPEAK], listen=(1, 3))

    def test_back_to_what_it_was(self):
        self.told(MIXED, [("tick", 0), ("tick", 0)], watch=(1, 1, 1, 1, 0))
        self.told(MIXED, [NEXT] * 4, acting=NEXT, watch=(1, 1, 1, 1, 0), read=(3, 3, 3, 3, 0))

    def test_none_where_both_are_empty(self):
        found = signs(NEITHER, [("tick", 0)])
        self.assertEqual(set(found.values()), {None})
        self.assertIsNone(signs(MIXED, [("point", 2)])["listen", False])
        self.assertEqual(signs(MIXED, [("point", 2)])["listen", True], (("point", 2), ()))

    def test_messages_that_come_are_not_noticed(self):
        # the queue is another one behind the tick, but nothing is spoken
        found = signs(MIXED, [("tick", 1)])
        self.assertIsNone(found["listen", False])
        self.assertIsNone(found["listen", True])
        self.assertIsNone(found["watch", True])

    def test_signs_are_told_by_what_is_passed(self):
        # the two states and what is spoken count, not what the act would do
        one, two = ((0, 0, 0), 0, ()), ((1, 1, 0), 2, ())
        self.assertEqual(sign(MIXED, ("watch", False), one, SPEAK, (0, 3), two),
                         ((), (2, 2, 2, 2, 2)))
        self.assertEqual(sign(MIXED, ("read", True), two, PRESS, (), one),
                         (PRESS, (3, 3, 3, 3, 0)))
        self.assertEqual(sign(MIXED, ("listen", True), one, SPEAK, (2, 7), one), ((), (2, 7)))

    def test_compared_with_another_way(self):
        kinds = set()
        for program in model.programs(60, 41):
            for state in (reached(program, 5000) or [start(program)])[:60]:
                for act in acts(program, state):
                    behind, spoken = after(program, state, act)
                    for observer in OBSERVERS:
                        found = sign(program, observer, state, act, spoken, behind)
                        self.assertEqual((found, behind),
                                         watching.done(program, observer, state, act))
                        kinds.add((observer, act[0], found is None))
        # each observer and kind of act, both with a sign and without one where both can be
        self.assertEqual(len(kinds), 50)


class Final(unittest.TestCase):
    def test_what_each_kind_knows(self):
        for state in (start(MIXED), ((1, 0, 1), 2, ((1, 3),)), ((0, 1, 0), 3, ())):
            for kind, acting in OBSERVERS:
                with self.subTest(state=state, kind=kind, acting=acting):
                    wanted = {"glance": sight(MIXED, state), "watch": sight(MIXED, state),
                              "ask": reading(MIXED, state), "read": reading(MIXED, state),
                              "listen": ()}[kind]
                    self.assertEqual(final(MIXED, (kind, acting), state), wanted)

    def test_plain_numbers(self):
        state = ((1, 0, 0), 2, ((0, 3),))
        self.assertEqual(final(MIXED, ("glance", False), state), (2, 2, 2, 2, 2))
        self.assertEqual(final(MIXED, ("watch", True), state), (2, 2, 2, 2, 2))
        self.assertEqual(final(MIXED, ("ask", False), state), (3, 3, 3, 3, 2))
        self.assertEqual(final(MIXED, ("read", False), state), (3, 3, 3, 3, 2))
        self.assertEqual(final(MIXED, ("listen", True), state), ())


class Ready(unittest.TestCase):
    def test_no_message_waits(self):
        for first in OBSERVERS:
            for second in OBSERVERS:
                self.assertIs(is_ready(first, second, start(MIXED)), True)
                self.assertIs(is_ready(first, second, ((1, 1, 1), 3, ())), True)

    def test_messages_that_wait(self):
        for queue in (((0, 0),), ((1, 3), (0, 4))):
            state = ((0, 1, 0), 1, queue)
            for first in OBSERVERS:
                for second in OBSERVERS:
                    wanted = first[0] != "listen" and second[0] != "listen"
                    self.assertIs(is_ready(first, second, state), wanted)

    def test_one_who_listens_on_either_side(self):
        state = ((0, 0, 0), 1, ((1, 3),))
        self.assertIs(is_ready(("listen", False), ("watch", True), state), False)
        self.assertIs(is_ready(("ask", False), ("listen", True), state), False)
        self.assertIs(is_ready(("listen", True), ("listen", False), state), False)
        self.assertIs(is_ready(("read", True), ("glance", False), state), True)


class Observers(unittest.TestCase):
    def test_the_eight(self):
        for observer in OBSERVERS:
            self.assertIsNone(require_observer(observer))

    def test_all_others(self):
        for observer in (("glance", True), ("ask", True), ("look", False), ("", False),
                         ("Watch", True), ("watch ", True), (None, False), (0, False),
                         (("watch",), False), (["watch"], False), ("watch", 1), ("watch", 0),
                         ("read", None), ("listen", "True"), ("listen", ""), ("glance", 0),
                         ("ask", None), (True, "watch"), ("watch", ()), ("watch",), (),
                         ("watch", True, True), "watch", None):
            with self.subTest(observer=observer):
                with self.assertRaises(BadObserver) as caught:
                    require_observer(observer)
                self.assertIs(caught.exception.value, observer)


class Purity(unittest.TestCase):
    def test_nothing_is_modified(self):
        program, chance = MIXED, random.Random(42)
        told = repr(vars(program))
        state = start(program)
        for act in watching.walk(program, chance, 60):
            behind, spoken = after(program, state, act)
            text = repr((state, act, spoken, behind))
            for observer in OBSERVERS:
                sign(program, observer, state, act, spoken, behind)
                final(program, observer, behind)
                is_ready(observer, ("listen", True), behind)
            self.assertEqual(repr((state, act, spoken, behind)), text)
            state = behind
        self.assertEqual(repr(vars(program)), told)


if __name__ == "__main__":
    unittest.main()
