"""Points 50 and 51: what an observer holds."""

import inspect
import random
import unittest

from tests import model, watching
from tests.watching import OBSERVERS
from twoknowers import held as held_module
from twoknowers.held import first_held, next_held
from twoknowers.program import Program
from twoknowers.screen import acts, after, reached, start

NEXT, PRESS, SPEAK, TICK = ("next",), ("press",), ("speak",), ("tick", 0)
# one live part: its look is always the same, its word tells the variable
LAMP = Program(sizes=(2,), parts=(((0, (4, 4)), (0, (0, 1)), ((0, 1),)),), live=(0,))
# one part that tells nothing by itself, and a clock
CLOCK = Program(sizes=(3,), parts=(((0, (1, 1, 2)), (0, (3, 4, 4)), None),), ticks=(((0, 1),),))


def small():
    """Programs with at most 200 states."""
    return [program for program in model.programs(70, 51) if reached(program, 200)]


def along(program, observer, run):
    """What is held behind each begin of the run, with the signs and the state behind it."""
    state, signs = start(program), []
    held = first_held(program, observer)
    yield held, [], state
    for act in run:
        told, state = watching.done(program, observer, state, act)
        held = next_held(program, observer, held, told)
        signs = signs if told is None else signs + [told]
        yield held, signs, state


class Interface(unittest.TestCase):
    def test_functions_and_arguments(self):
        listed = {"first_held": ["program", "observer"],
                  "next_held": ["program", "observer", "held", "told"]}
        for name, arguments in listed.items():
            function = getattr(held_module, name)
            self.assertEqual(list(inspect.signature(function).parameters), arguments)
            self.assertEqual(function.__module__, "twoknowers.held")


class First(unittest.TestCase):
    def test_one_who_notices_nothing_holds_all_states(self):
        for program in small():
            for kind in ("glance", "ask"):
                self.assertEqual(first_held(program, (kind, False)),
                                 tuple(sorted(reached(program, 200))))

    def test_one_who_watches(self):
        self.assertEqual(first_held(CLOCK, ("watch", False)), (
            ((0,), 0, ()), ((0,), 0, ((0, 3),)),
            ((1,), 0, ()), ((1,), 0, ((0, 3),)), ((1,), 0, ((0, 4),))))

    def test_one_who_reads_and_acts(self):
        self.assertEqual(first_held(CLOCK, ("read", True)), (((0,), 0, ()),))
        self.assertEqual(first_held(CLOCK, ("read", False)), (
            ((0,), 0, ()), ((0,), 0, ((0, 3),))))

    def test_one_who_listens(self):
        self.assertEqual(first_held(LAMP, ("listen", True)), (((0,), 0, ()),))
        self.assertEqual(first_held(LAMP, ("listen", False)), (
            ((0,), 0, ()), ((0,), 0, ((0, 0),)), ((1,), 0, ((0, 1),))))


class Next(unittest.TestCase):
    def test_behind_an_act_without_a_sign(self):
        for program in small()[:20]:
            for observer in OBSERVERS:
                held = first_held(program, observer)
                self.assertEqual(next_held(program, observer, held, None), held)
        self.assertEqual(next_held(LAMP, ("watch", True), (), None), ())

    def test_behind_a_sign(self):
        observer = ("listen", False)
        held = first_held(LAMP, observer)
        # it was pressed, and perhaps again and again
        self.assertEqual(next_held(LAMP, observer, held, ((), (0, 1))), (
            ((0,), 0, ((0, 0),)), ((1,), 0, ()), ((1,), 0, ((0, 1),))))
        self.assertEqual(next_held(LAMP, observer, held, ((), (0, 0))), (
            ((0,), 0, ()), ((0,), 0, ((0, 0),)), ((1,), 0, ((0, 1),))))

    def test_one_who_acts(self):
        observer = ("watch", True)
        held = first_held(LAMP, observer)
        self.assertEqual(held, (((0,), 0, ()),))
        held = next_held(LAMP, observer, held, (PRESS, ()))
        # the message may have been spoken
        self.assertEqual(held, (((1,), 0, ()), ((1,), 0, ((0, 1),))))
        held = next_held(LAMP, observer, held, (("point", 0), ()))
        self.assertEqual(held, (((0,), 0, ()), ((0,), 0, ((0, 0),))))

    def test_a_sign_of_some_of_the_states_that_are_held(self):
        observer = ("watch", False)
        held = first_held(CLOCK, observer)
        behind = next_held(CLOCK, observer, held, ((), (2, 0)))
        # only a tick at the value 1 gives this sign
        self.assertEqual({values for values, _, _ in behind}, {(2,)})
        self.assertEqual(behind, (((2,), 0, ()), ((2,), 0, ((0, 3),)), ((2,), 0, ((0, 4),))))

    def test_a_sign_that_no_act_gives(self):
        for observer in OBSERVERS:
            for told in (((), ()), ((), (9, 9)), (("point", 7), ()), (NEXT, (1, 1, 1)),
                         (("jump",), ()), ((), (3, 5))):
                with self.subTest(observer=observer, told=told):
                    self.assertEqual(next_held(LAMP, observer, first_held(LAMP, observer), told),
                                     ())
        # the sign of one who acts is none of one who does not
        held = first_held(LAMP, ("listen", False))
        self.assertEqual(next_held(LAMP, ("listen", False), held, (PRESS, ())), ())

    def test_from_the_empty_tuple(self):
        for observer in OBSERVERS:
            for told in (None, ((), (0, 1)), (PRESS, ()), ((), (4, 0))):
                found = next_held(LAMP, observer, (), told)
                self.assertIs(type(found), tuple)
                self.assertEqual(found, ())


class Search(unittest.TestCase):
    """Compared with searches that go their own ways."""

    def test_runs(self):
        chance = random.Random(52)
        for program in small():
            run = watching.walk(program, chance, 8)
            for observer in OBSERVERS:
                for held, signs, state in along(program, observer, run):
                    self.assertEqual(held, watching.held(program, observer, signs))
                    self.assertIn(state, held)

    def test_ascending_and_each_state_once(self):
        chance = random.Random(53)
        many = 0
        for program in small():
            run = watching.walk(program, chance, 6)
            for observer in OBSERVERS:
                for held, _, _ in along(program, observer, run):
                    self.assertIs(type(held), tuple)
                    many = max(many, len(held))
                    for one, two in zip(held, held[1:]):
                        self.assertLess(one, two)
        self.assertGreater(many, 100)

    def test_signs_that_a_run_does_not_give(self):
        chance = random.Random(54)
        empty = 0
        for program in small()[:40]:
            for observer in OBSERVERS:
                run = watching.walk(program, chance, 20)
                told = [each for each in watching.followed(program, observer, run)[0] if each]
                for signs in (told[:3], told[1:4], told[:4:-1]):
                    held = first_held(program, observer)
                    for each in signs:
                        held = next_held(program, observer, held, each)
                    self.assertEqual(held, watching.held(program, observer, signs))
                    empty += held == ()
        self.assertGreater(empty, 50)

    def test_all_histories(self):
        # these many acts are enough for all states behind at most one sign
        for program, long in ((LAMP, 5), (CLOCK, 8)):
            runs = watching.histories(program, long)
            for observer in OBSERVERS:
                found = {}
                for run, state in runs:
                    signs = watching.followed(program, observer, run)[0]
                    key = tuple(told for told in signs if told is not None)
                    found.setdefault(key, set()).add(state)
                self.assert_held(program, observer, found)

    def assert_held(self, program, observer, found):
        for signs, states in found.items():
            if len(signs) <= 4:
                held = first_held(program, observer)
                for told in signs:
                    held = next_held(program, observer, held, told)
                self.assertLessEqual(states, set(held))
                if len(signs) <= 1:
                    self.assertEqual(tuple(sorted(states)), held)


class Purity(unittest.TestCase):
    def test_nothing_is_modified(self):
        told = repr(vars(LAMP))
        for observer in OBSERVERS:
            held = first_held(LAMP, observer)
            text = repr(held)
            for state in held:
                for act in acts(LAMP, state):
                    sign, _ = watching.done(LAMP, observer, state, act)
                    next_held(LAMP, observer, held, sign)
                    after(LAMP, state, act)
            self.assertEqual(repr(held), text)
            self.assertEqual(first_held(LAMP, observer), held)
        self.assertEqual(repr(vars(LAMP)), told)


if __name__ == "__main__":
    unittest.main()
