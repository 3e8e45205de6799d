"""Points 50 and 55, with points 5, 40, 41 and 42, and what point 3 says of runs."""

import inspect
import random
import unittest

from tests import model, watching
from tests.watching import OBSERVERS
from twoknowers import knowledge
from twoknowers.errors import BadObserver, KnowError, NotAllowed
from twoknowers.knowledge import can_tell, noticed, possible
from twoknowers.program import Program
from twoknowers.screen import reached, start

NEXT, PRESS, SPEAK, TICK, POINT = ("next",), ("press",), ("speak",), ("tick", 0), ("point", 0)
# one live part: its look is always the same, its word tells the variable
LAMP = Program(sizes=(2,), parts=(((0, (4, 4)), (0, (0, 1)), ((0, 1),)),), live=(0,))
# two parts, the first one seen and the second one read, and a clock
PANEL = Program(sizes=(2, 2), parts=(((0, (1, 2)), (1, (5, 5)), ((0, 1),)),
                                     ((1, (3, 3)), (1, (6, 7)), None)),
                ticks=(((1, 1),),), live=(1,))
WRONG = (("glance", True), ("ask", True), ("look", False), ("", True), ("Listen", False),
         (None, True), (0, False), ("watch", 1), ("watch", 0), ("read", None), ("read", "True"),
         ("listen", ""), ("listen", 0), ("glance", 0), ("ask", None), (True, "watch"))


def small():
    """Programs with at most 200 states."""
    return [program for program in model.programs(60, 61) if reached(program, 200)]


def alike(program, observer, run):
    """The states that are possible, by another way."""
    signs, state = watching.followed(program, observer, run)
    told = [each for each in signs if each is not None]
    known = watching.seen_by(observer, model.Screen(program, state))
    return [other for other in watching.held(program, observer, told)
            if watching.seen_by(observer, model.Screen(program, other)) == known]


class Interface(unittest.TestCase):
    def test_functions_and_arguments(self):
        listed = {"noticed": ["program", "observer", "run"],
                  "possible": ["program", "observer", "run"],
                  "can_tell": ["program", "observer", "run", "states"]}
        for name, arguments in listed.items():
            function = getattr(knowledge, name)
            self.assertEqual(list(inspect.signature(function).parameters), arguments)
            self.assertEqual(function.__module__, "twoknowers.knowledge")


class Noticed(unittest.TestCase):
    def test_the_empty_run(self):
        for observer in OBSERVERS:
            known = {"glance": (1, 3, 0), "watch": (1, 3, 0), "ask": (5, 6, 0),
                     "read": (5, 6, 0), "listen": ()}[observer[0]]
            self.assertEqual(noticed(PANEL, observer, []), ([], known))

    def test_a_run(self):
        run = [POINT, TICK, NEXT, SPEAK, TICK]
        wanted = {
            ("glance", False): ([], (2, 3, 1)),
            ("watch", False): ([((), (2, 3, 0)), ((), (2, 3, 1))], (2, 3, 1)),
            ("watch", True): ([(POINT, (2, 3, 0)), (NEXT, (2, 3, 1))], (2, 3, 1)),
            ("ask", False): ([], (5, 6, 1)),
            ("read", False): ([((), (5, 7, 0)), ((), (5, 7, 1)), ((), (5, 6, 1))], (5, 6, 1)),
            ("read", True): ([(POINT, ()), ((), (5, 7, 0)), (NEXT, (5, 7, 1)), ((), (5, 6, 1))],
                             (5, 6, 1)),
            ("listen", False): ([((), (1, 7))], ()),
            ("listen", True): ([(POINT, ()), (NEXT, ()), ((), (1, 7))], ()),
        }
        for observer in OBSERVERS:
            with self.subTest(observer=observer):
                self.assertEqual(noticed(PANEL, observer, run), wanted[observer])

    def test_the_same_sign_twice(self):
        self.assertEqual(noticed(LAMP, ("listen", True), [PRESS, PRESS]),
                         ([(PRESS, ()), (PRESS, ())], ()))
        self.assertEqual(noticed(LAMP, ("listen", False), [NEXT, SPEAK, NEXT, SPEAK]),
                         ([((), (0, 0)), ((), (0, 0))], ()))

    def test_compared_with_another_way(self):
        chance = random.Random(62)
        for program in model.programs(60, 63):
            for long in (0, 1, 5, 25):
                run = watching.walk(program, chance, long)
                for observer in OBSERVERS:
                    signs, state = watching.followed(program, observer, run)
                    known = watching.seen_by(observer, model.Screen(program, state))
                    self.assertEqual(noticed(program, observer, run),
                                     ([told for told in signs if told is not None], known))

    def test_kinds_of_values(self):
        found = noticed(PANEL, ("read", True), [POINT])
        self.assertEqual([type(found), type(found[0]), type(found[1])], [tuple, list, tuple])


class Possible(unittest.TestCase):
    def test_the_empty_run(self):
        self.assertEqual(possible(LAMP, ("listen", True), []), [((0,), 0, ())])
        self.assertEqual(possible(LAMP, ("listen", False), []),
                         [((0,), 0, ()), ((0,), 0, ((0, 0),)), ((1,), 0, ((0, 1),))])
        # one who asks knows the word; the message may be any
        self.assertEqual(possible(LAMP, ("ask", False), []),
                         [((0,), 0, ()), ((0,), 0, ((0, 0),))])
        self.assertEqual(possible(LAMP, ("read", True), []), [((0,), 0, ())])
        # nothing can be seen of the lamp
        self.assertEqual(possible(LAMP, ("glance", False), []), sorted(reached(LAMP, 100)))

    def test_a_run(self):
        run = [PRESS, SPEAK]
        self.assertEqual(possible(LAMP, ("watch", True), run),
                         [((1,), 0, ()), ((1,), 0, ((0, 1),))])
        self.assertEqual(possible(LAMP, ("listen", True), run), [((1,), 0, ())])
        self.assertEqual(possible(LAMP, ("read", False), run), [
            ((1,), 0, ()), ((1,), 0, ((0, 1),))])
        self.assertEqual(possible(LAMP, ("listen", False), run), [
            ((0,), 0, ((0, 0),)), ((1,), 0, ()), ((1,), 0, ((0, 1),))])

    def test_what_is_known_at_the_end_counts(self):
        # one who glances has no signs, but knows the sight at the end
        for run, looks in (([], 1), ([POINT], 2), ([POINT, TICK, NEXT, NEXT], 2)):
            states = possible(PANEL, ("glance", False), run)
            self.assertEqual({(values[0], focus) for values, focus, _ in states}, {(looks - 1, 0)})
            self.assertEqual(states, [state for state in sorted(reached(PANEL, 1000))
                                      if (state[0][0], state[1]) == (looks - 1, 0)])

    def test_ascending_and_the_state_of_the_run_among_them(self):
        chance = random.Random(64)
        for program in small():
            run = watching.walk(program, chance, 9)
            for observer in OBSERVERS:
                states = possible(program, observer, run)
                self.assertIs(type(states), list)
                self.assertEqual(states, sorted(set(states)))
                self.assertIn(watching.followed(program, observer, run)[1], states)

    def test_compared_with_another_way(self):
        chance = random.Random(65)
        for program in small():
            for long in (0, 1, 2, 4, 9):
                run = watching.walk(program, chance, long)
                for observer in OBSERVERS:
                    self.assertEqual(possible(program, observer, run),
                                     alike(program, observer, run))

    def test_compared_with_all_histories(self):
        for program, long in ((LAMP, 5), (PANEL, 5)):
            runs = watching.histories(program, long)
            for observer in OBSERVERS:
                self.assert_alike(program, observer, runs)

    def assert_alike(self, program, observer, runs):
        """Histories that are alike lead to states that are possible behind each of them."""
        found, one = {}, {}
        for run, state in runs:
            signs, _ = watching.followed(program, observer, run)
            key = (tuple(told for told in signs if told is not None),
                   watching.seen_by(observer, model.Screen(program, state)))
            found.setdefault(key, set()).add(state)
            one[key] = run
        for key in list(found)[:40]:
            states = possible(program, observer, list(one[key]))
            self.assertLessEqual(found[key], set(states))
            if key[0] == () and program is LAMP:
                self.assertEqual(found[key], set(states))

    def test_a_long_run(self):
        run = [TICK] * 400 + [NEXT, SPEAK] * 100
        signs, known = noticed(PANEL, ("read", False), run)
        self.assertEqual((len(signs), known), (500, (5, 6, 0)))
        self.assertIn(((0, 0), 0, ()), possible(PANEL, ("read", False), run))


class CanTell(unittest.TestCase):
    def test_all_that_are_possible(self):
        chance = random.Random(66)
        for program in small():
            run = watching.walk(program, chance, 5)
            for observer in OBSERVERS:
                states = possible(program, observer, run)
                self.assertIs(can_tell(program, observer, run, states), True)
                self.assertIs(can_tell(program, observer, run, reached(program, 200)), True)
                for left in chance.sample(states, min(len(states), 5)):
                    fewer = [state for state in states if state != left]
                    self.assertIs(can_tell(program, observer, run, fewer), False)

    def test_no_states(self):
        for observer in OBSERVERS:
            self.assertIs(can_tell(LAMP, observer, [], []), False)
            self.assertIs(can_tell(LAMP, observer, [PRESS, SPEAK], []), False)

    def test_any_order_and_doubled(self):
        run, observer = [PRESS, SPEAK], ("listen", False)
        states = possible(LAMP, observer, run)
        self.assertEqual(len(states), 3)
        for given in (states[::-1], states * 2, states[1:] + states[:1], states + states[:1]):
            self.assertIs(can_tell(LAMP, observer, run, given), True)
        for given in (states[:2] * 3, [states[2], states[0], states[2]]):
            self.assertIs(can_tell(LAMP, observer, run, given), False)

    def test_states_that_are_not_reached(self):
        run, observer = [PRESS], ("listen", True)
        other = ((0,), 0, ((0, 7),)), ((3,), 5, ()), ((0, 0), 0, ())
        states = possible(LAMP, observer, run)
        self.assertIs(can_tell(LAMP, observer, run, [*other, *states]), True)
        self.assertIs(can_tell(LAMP, observer, run, list(other)), False)

    def test_some_cases(self):
        bright = [state for state in reached(LAMP, 100) if state[0] == (1,)]
        self.assertIs(can_tell(LAMP, ("read", False), [PRESS], bright), True)
        self.assertIs(can_tell(LAMP, ("ask", False), [PRESS], bright), True)
        self.assertIs(can_tell(LAMP, ("watch", False), [PRESS], bright), False)
        self.assertIs(can_tell(LAMP, ("watch", True), [PRESS], bright), True)
        self.assertIs(can_tell(LAMP, ("listen", True), [PRESS], bright), True)
        self.assertIs(can_tell(LAMP, ("listen", False), [PRESS, SPEAK], bright), False)


class Errors(unittest.TestCase):
    def calls(self, program, observer, run):
        return (lambda: noticed(program, observer, run),
                lambda: possible(program, observer, run),
                lambda: can_tell(program, observer, run, [start(program)]),
                lambda: can_tell(program, observer, run, []))

    def refused(self, error, value, program, observer, run):
        for at, call in enumerate(self.calls(program, observer, run)):
            with self.subTest(at=at, observer=observer, run=run):
                with self.assertRaises(error) as caught:
                    call()
                self.assertIs(type(caught.exception), error)
                self.assertIsInstance(caught.exception, KnowError)
                self.assertIs(caught.exception.value, value)

    def test_observers_that_are_none(self):
        for observer in WRONG:
            for run in ([], [PRESS], [SPEAK], [PRESS, ("jump",)], [("point", 5), ()]):
                self.refused(BadObserver, observer, LAMP, observer, run)

    def test_acts_that_are_not_allowed(self):
        jump, early, late, true = ("jump",), ("speak",), ("speak",), ("point", True)
        for observer in OBSERVERS:
            self.refused(NotAllowed, early, LAMP, observer, [early, PRESS])
            self.refused(NotAllowed, jump, LAMP, observer, [PRESS, jump, SPEAK])
            self.refused(NotAllowed, late, LAMP, observer, [PRESS, SPEAK, late, jump])
            self.refused(NotAllowed, true, LAMP, observer, [NEXT, true])
            self.refused(NotAllowed, (), LAMP, observer, [()])
        self.refused(NotAllowed, PRESS, PANEL, ("watch", True), [NEXT, PRESS, ("jump",)])
        self.refused(NotAllowed, TICK, LAMP, ("watch", True), [PRESS, TICK])

    def test_acts_that_are_allowed_only_behind_others(self):
        self.assertEqual(noticed(LAMP, ("listen", False), [NEXT, SPEAK])[0], [((), (0, 0))])
        self.assertEqual(noticed(PANEL, ("watch", False), [NEXT, NEXT, PRESS])[1], (2, 3, 0))


class Purity(unittest.TestCase):
    def test_nothing_is_modified(self):
        run, states = [POINT, TICK, NEXT, SPEAK], [start(PANEL)] * 2
        before = repr((run, states, vars(PANEL)))
        for observer in OBSERVERS:
            noticed(PANEL, observer, run)
            possible(PANEL, observer, run)
            can_tell(PANEL, observer, run, states)
        self.assertEqual(repr((run, states, vars(PANEL))), before)

    def test_a_new_list_each_time(self):
        run = [POINT, TICK]
        for observer in OBSERVERS:
            signs, known = noticed(PANEL, observer, run)
            text = repr((signs, known))
            signs.append("more")
            self.assertEqual(repr(noticed(PANEL, observer, run)), text)
            states = possible(PANEL, observer, run)
            text = repr(states)
            states.clear()
            self.assertEqual(repr(possible(PANEL, observer, run)), text)

    def test_what_was_passed_can_be_changed(self):
        run = [POINT, TICK]
        found = noticed(PANEL, ("read", True), run)
        text = repr(found)
        run.clear()
        self.assertEqual(repr(found), text)


if __name__ == "__main__":
    unittest.main()
