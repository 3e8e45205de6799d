"""Points 20 to 25, with point 12 for the changes, and what points 1, 3 and 4 say of screens."""

import inspect
import unittest

from tests import model
from twoknowers import screen
from twoknowers.errors import NotAllowed
from twoknowers.program import Program
from twoknowers.screen import acts, after, put, reached, reading, sight, start

SWITCH = ((0, (4, 5)), (0, (0, 1)), ((0, 1),))
DIAL = ((1, (1, 1, 2)), (1, (3, 4, 3)), None)
BOTH = ((0, (6, 6)), (1, (5, 6, 7)), ((1, 2), (0, 1)))
PLAIN = ((0, (1, 2)), (0, (3, 4)), None)


def three(**more):
    """A program with two variables, three parts and two ticks."""
    return Program(sizes=(2, 3), parts=(SWITCH, DIAL, BOTH),
                   ticks=(((1, 1),), ((0, 1), (1, 3))), **more)


def plain(many, skips=(), live=()):
    """A program with these many parts without a press, and one tick."""
    return Program(sizes=(2,), parts=(PLAIN,) * many, ticks=(((0, 1),),), skips=skips, live=live)


def run(program, *ways):
    """The state behind these acts, and what the last one spoke."""
    state, spoken = start(program), ()
    for act in ways:
        state, spoken = after(program, state, act)
    return state, spoken


NEXT, PRESS, SPEAK = ("next",), ("press",), ("speak",)


def tick(index):
    return ("tick", index)


def point(part):
    return ("point", part)


class Interface(unittest.TestCase):
    def test_functions_and_arguments(self):
        listed = {
            "start": ["program"], "sight": ["program", "state"], "reading": ["program", "state"],
            "put": ["queue", "message"], "acts": ["program", "state"],
            "after": ["program", "state", "act"], "reached": ["program", "limit"],
        }
        for name, arguments in listed.items():
            function = getattr(screen, name)
            self.assertEqual(list(inspect.signature(function).parameters), arguments)
            self.assertEqual(function.__module__, "twoknowers.screen")


class States(unittest.TestCase):
    def test_the_first_state(self):
        self.assertEqual(start(plain(1)), ((0,), 0, ()))
        self.assertEqual(start(three()), ((0, 0), 0, ()))
        most = Program(sizes=(4, 3, 2), parts=(PLAIN4,) * 4, live=(0,), skips=(0, 1))
        self.assertEqual(start(most), ((0, 0, 0), 0, ()))

    def test_sight(self):
        program = three()
        self.assertEqual(sight(program, ((0, 0), 0, ())), (4, 1, 6, 0))
        self.assertEqual(sight(program, ((1, 2), 2, ((1, 3),))), (5, 2, 6, 2))
        self.assertEqual(sight(program, ((1, 1), 1, ())), (5, 1, 6, 1))
        self.assertEqual(sight(plain(1), ((1,), 0, ())), (2, 0))

    def test_reading(self):
        program = three()
        self.assertEqual(reading(program, ((0, 0), 0, ())), (0, 3, 5, 0))
        self.assertEqual(reading(program, ((1, 2), 2, ((1, 4),))), (1, 3, 7, 2))
        self.assertEqual(reading(program, ((1, 1), 1, ())), (1, 4, 6, 1))
        self.assertEqual(reading(plain(1), ((1,), 0, ())), (4, 0))

    def test_skipped_parts_are_seen_and_read(self):
        program = three(skips=(0, 1, 2), live=(1,))
        self.assertEqual(sight(program, start(program)), (4, 1, 6, 0))
        self.assertEqual(reading(program, start(program)), (0, 3, 5, 0))


PLAIN4 = ((0, (1, 2, 3, 4)), (0, (3, 4, 5, 6)), None)


class Put(unittest.TestCase):
    def test_a_new_message_comes_last(self):
        self.assertEqual(put((), (2, 7)), ((2, 7),))
        self.assertEqual(put(((2, 7),), (0, 7)), ((2, 7), (0, 7)))
        self.assertEqual(put(((2, 7), (0, 7)), (1, 0)), ((2, 7), (0, 7), (1, 0)))

    def test_a_message_of_the_same_part_is_replaced_in_its_place(self):
        queue = ((2, 7), (0, 1), (3, 1))
        self.assertEqual(put(queue, (2, 0)), ((2, 0), (0, 1), (3, 1)))
        self.assertEqual(put(queue, (0, 0)), ((2, 7), (0, 0), (3, 1)))
        self.assertEqual(put(queue, (3, 0)), ((2, 7), (0, 1), (3, 0)))
        self.assertEqual(put(queue, (0, 1)), queue)
        self.assertEqual(queue, ((2, 7), (0, 1), (3, 1)))


class Acts(unittest.TestCase):
    def test_their_order(self):
        program = three()
        self.assertEqual(acts(program, start(program)),
                         [point(0), point(2), NEXT, PRESS, tick(0), tick(1)])
        self.assertEqual(acts(program, ((0, 0), 1, ((1, 3),))),
                         [point(0), point(2), NEXT, tick(0), tick(1), SPEAK])
        self.assertEqual(acts(program, ((0, 0), 2, ((1, 3), (2, 5)))),
                         [point(0), point(2), NEXT, PRESS, tick(0), tick(1), SPEAK])

    def test_next_is_always_allowed(self):
        program = Program(sizes=(2,), parts=(PLAIN,), skips=(0,))
        self.assertEqual(acts(program, start(program)), [NEXT])

    def test_skipped_parts_are_pointed_at_and_pressed(self):
        program = three(skips=(0, 1, 2))
        self.assertEqual(acts(program, start(program)),
                         [point(0), point(2), NEXT, PRESS, tick(0), tick(1)])

    def test_each_is_done_and_nothing_else_is_allowed(self):
        program = three()
        for state in reached(program, 10000)[:200]:
            for act in acts(program, state):
                after(program, state, act)

    def test_a_new_list_each_time(self):
        program = three()
        first = acts(program, start(program))
        first.clear()
        self.assertEqual(len(acts(program, start(program))), 6)


class Next(unittest.TestCase):
    def test_it_goes_on_and_back_to_part_0(self):
        program = plain(3)
        self.assertEqual(run(program, NEXT), (((0,), 1, ((1, 3),)), ()))
        self.assertEqual(run(program, NEXT, NEXT), (((0,), 2, ((1, 3), (2, 3))), ()))
        self.assertEqual(run(program, NEXT, NEXT, NEXT),
                         (((0,), 0, ((1, 3), (2, 3), (0, 3))), ()))

    def test_past_skipped_parts(self):
        focuses = {
            (1,): [2, 3, 0, 2], (3,): [1, 2, 0, 1], (1, 2): [3, 0, 3, 0], (2, 3): [1, 0, 1, 0],
            (0,): [1, 2, 3, 1], (0, 1): [2, 3, 2, 3], (0, 3): [1, 2, 1, 2], (0, 1, 3): [2, 2, 2, 2],
        }
        for skips, wanted in focuses.items():
            with self.subTest(skips=skips):
                program = plain(4, skips=skips)
                found = [run(program, *[NEXT] * many)[0][1] for many in (1, 2, 3, 4)]
                self.assertEqual(found, wanted)

    def test_where_one_part_is_not_skipped(self):
        program = plain(3, skips=(1, 2))
        self.assertEqual(run(program, NEXT), (((0,), 0, ((0, 3),)), ()))
        self.assertEqual(run(plain(1), NEXT), (((0,), 0, ((0, 3),)), ()))

    def test_where_all_are_skipped(self):
        program = plain(3, skips=(0, 1, 2))
        self.assertEqual(run(program, NEXT), (((0,), 0, ((0, 3),)), ()))
        self.assertEqual(run(program, NEXT, tick(0), NEXT), (((1,), 0, ((0, 4),)), ()))

    def test_a_skipped_part_0_has_the_focus_at_the_start_only(self):
        program = plain(3, skips=(0,))
        self.assertEqual(start(program)[1], 0)
        self.assertEqual(run(program, tick(0))[0][1], 0)
        self.assertEqual(run(program, NEXT), (((0,), 1, ((1, 3),)), ()))
        self.assertEqual(run(program, NEXT, NEXT, NEXT), (((0,), 1, ((1, 3), (2, 3))), ()))

    def test_its_message_replaces_one_in_its_place(self):
        program = plain(2)
        self.assertEqual(run(program, NEXT, NEXT, tick(0), NEXT)[0], ((1,), 1, ((1, 4), (0, 3))))

    def test_a_part_that_is_not_live_is_told_too(self):
        self.assertEqual(run(plain(2, live=(0,)), NEXT)[0][2], ((1, 3),))
        self.assertEqual(run(plain(2, live=(1,)), NEXT)[0][2], ((1, 3),))


class Changes(unittest.TestCase):
    def test_they_add_up_and_the_remainder_is_taken(self):
        table = (0, (0, 1, 2, 3))
        for changes, value in ((((0, 1),), 1), (((0, 3),), 3), (((0, 3), (0, 3)), 2),
                               (((0, 3), (0, 3), (0, 3)), 1), (((0, 2), (0, 2)), 0)):
            program = Program(sizes=(4,), parts=((table, table, changes),), ticks=(changes,))
            for act in (point(0), PRESS, tick(0)):
                self.assertEqual(run(program, act)[0], ((value,), 0, ()))

    def test_each_by_the_size_of_its_variable(self):
        table = (0, (0, 1))
        changes = ((2, 3), (0, 3), (1, 3))
        program = Program(sizes=(2, 3, 4), parts=((table, table, None),), ticks=(changes,))
        self.assertEqual(run(program, tick(0))[0][0], (1, 0, 3))
        self.assertEqual(run(program, tick(0), tick(0))[0][0], (0, 0, 2))

    def test_each_act_does_its_own(self):
        program = three()
        self.assertEqual(run(program, point(0)), (((1, 0), 0, ()), ()))
        self.assertEqual(run(program, point(2)), (((1, 2), 0, ()), ()))
        self.assertEqual(run(program, PRESS), (((1, 0), 0, ()), ()))
        self.assertEqual(run(program, tick(0)), (((0, 1), 0, ()), ()))
        self.assertEqual(run(program, tick(1)), (((1, 0), 0, ()), ()))

    def test_a_press_is_that_of_the_part_with_the_focus(self):
        program = three()
        self.assertEqual(run(program, NEXT, NEXT, PRESS)[0][:2], ((1, 2), 2))
        self.assertEqual(run(program, NEXT, NEXT, point(0))[0][:2], ((1, 0), 2))


class Messages(unittest.TestCase):
    def test_live_parts_put_theirs_in_ascending_order(self):
        words = ((0, (0, 1)), (0, (1, 2)), ((0, 1),))
        for live in ((0, 1, 2, 3), (1, 3), (0, 2), (3,), ()):
            program = Program(sizes=(2,), parts=(words,) * 4, ticks=(((0, 1),),), live=live)
            wanted = tuple((part, 2) for part in live)
            for act in (point(0), point(3), PRESS, tick(0)):
                self.assertEqual(run(program, act), (((1,), 0, wanted), ()))

    def test_only_where_the_word_is_another_one(self):
        program = three(live=(0, 1, 2))
        self.assertEqual(run(program, point(0))[0][2], ((0, 1),))
        self.assertEqual(run(program, tick(0))[0][2], ((1, 4), (2, 6)))
        # the dial goes from 0 to 2: it has the word 3 at both, so only its look is another one
        self.assertEqual(run(program, point(2))[0][2], ((0, 1), (2, 7)))

    def test_a_change_that_comes_back_is_none(self):
        program = Program(sizes=(2, 2), parts=(((0, (0, 1)), (0, (0, 1)), None),),
                          ticks=(((0, 1), (1, 1), (0, 1)),), live=(0,))
        self.assertEqual(run(program, tick(0)), (((0, 1), 0, ()), ()))

    def test_skipped_parts_may_be_live(self):
        program = plain(2, skips=(0, 1), live=(0, 1))
        self.assertEqual(run(program, tick(0))[0][2], ((0, 4), (1, 4)))

    def test_they_stand_behind_those_that_wait(self):
        program = plain(3, live=(0, 2))
        self.assertEqual(run(program, NEXT, tick(0))[0][2], ((1, 3), (0, 4), (2, 4)))

    def test_one_is_replaced_in_its_place(self):
        program = plain(3, live=(0, 1, 2))
        self.assertEqual(run(program, NEXT, NEXT)[0][2], ((1, 3), (2, 3)))
        self.assertEqual(run(program, NEXT, NEXT, tick(0))[0][2], ((1, 4), (2, 4), (0, 4)))

    def test_one_keeps_its_word_without_putting(self):
        program = plain(2)
        self.assertEqual(run(program, NEXT, tick(0))[0], ((1,), 1, ((1, 3),)))
        self.assertEqual(run(program, NEXT, tick(0), SPEAK), (((1,), 1, ()), (1, 3)))

    def test_one_waits_for_any_time(self):
        program = plain(1)
        ways = [NEXT] + [tick(0)] * 501
        self.assertEqual(run(program, *ways), (((1,), 0, ((0, 3),)), ()))

    def test_speak_takes_the_oldest(self):
        program = plain(3, live=(0,))
        ways = (NEXT, NEXT, tick(0))
        self.assertEqual(run(program, *ways)[0], ((1,), 2, ((1, 3), (2, 3), (0, 4))))
        self.assertEqual(run(program, *ways, SPEAK), (((1,), 2, ((2, 3), (0, 4))), (1, 3)))
        self.assertEqual(run(program, *ways, SPEAK, SPEAK), (((1,), 2, ((0, 4),)), (2, 3)))
        self.assertEqual(run(program, *ways, SPEAK, SPEAK, SPEAK), (((1,), 2, ()), (0, 4)))

    def test_speak_and_next_are_not_acts_with_changes(self):
        # the live part has a word that waits; neither act puts it again
        program = plain(2, live=(0,))
        self.assertEqual(run(program, tick(0), SPEAK), (((1,), 0, ()), (0, 4)))
        self.assertEqual(run(program, tick(0), SPEAK, NEXT), (((1,), 1, ((1, 4),)), ()))


class Refused(unittest.TestCase):
    def refused(self, program, state, act):
        with self.assertRaises(NotAllowed) as caught:
            after(program, state, act)
        self.assertIs(caught.exception.value, act)

    def test_acts_that_are_not_allowed(self):
        program = three()
        wrong = (
            (), ("jump",), ("",), ("Next",), ("point",), ("tick",), (0,), (0, "point"), (1, 2, 3),
            ("next", 0), ("next", "next"), ("press", 0), ("speak", 0), ("point", 0, 0),
            ("tick", 0, 0), ("point", "0"), ("tick", "0"), ("jump", 0),
            ("point", 1), ("point", 3), ("point", -1), ("point", 4), ("tick", 2), ("tick", -1),
            ("point", 10 ** 5000), ("tick", -10 ** 5000), ("speak",), ("watch", "speak"),
        )
        for at, act in enumerate(wrong):
            with self.subTest(at=at):
                self.refused(program, start(program), act)

    def test_a_press_of_a_part_without_one(self):
        program = three()
        self.refused(program, run(program, NEXT)[0], PRESS)
        self.refused(plain(1), start(plain(1)), PRESS)
        self.refused(plain(1), start(plain(1)), point(0))

    def test_a_speak_with_an_empty_queue(self):
        program = plain(1)
        self.refused(program, start(program), SPEAK)
        self.refused(program, run(program, NEXT, SPEAK)[0], SPEAK)

    def test_a_tick_where_there_is_none(self):
        program = Program(sizes=(2,), parts=(SWITCH,))
        self.refused(program, start(program), tick(0))

    def test_true_and_false_are_no_numbers(self):
        program = three()
        for act in (("point", False), ("tick", False), ("tick", True)):
            self.refused(program, start(program), act)

    def test_an_act_that_is_allowed_elsewhere(self):
        program = three()
        for state in reached(program, 10000)[:50]:
            allowed = acts(program, state)
            for act in [point(k) for k in range(-1, 5)] + [tick(k) for k in range(-1, 4)] + [
                    NEXT, PRESS, SPEAK]:
                if act in allowed:
                    after(program, state, act)
                else:
                    self.refused(program, state, act)


class Reached(unittest.TestCase):
    def test_the_order(self):
        program = Program(sizes=(2,), parts=(SWITCH,), live=(0,))
        self.assertEqual(reached(program, 100), [
            ((0,), 0, ()),           # the first one
            ((1,), 0, ((0, 1),)),    # by a point, and again by a press
            ((0,), 0, ((0, 0),)),    # by a next
            ((1,), 0, ()),           # by a speak of the second one
        ])

    def test_in_order_of_the_acts_and_first_met_first_taken(self):
        program = plain(2)
        self.assertEqual(reached(program, 100)[:7], [
            ((0,), 0, ()),
            ((0,), 1, ((1, 3),)),            # from 0 by next
            ((1,), 0, ()),                   # from 0 by tick
            ((0,), 0, ((1, 3), (0, 3))),     # from 1 by next
            ((1,), 1, ((1, 3),)),            # from 1 by tick
            ((0,), 1, ()),                   # from 1 by speak
            ((1,), 1, ((1, 4),)),            # from 2 by next
        ])

    def test_a_limit_that_is_just_enough(self):
        program = Program(sizes=(2,), parts=(SWITCH,), live=(0,))
        self.assertEqual(len(reached(program, 4)), 4)
        for limit in (3, 2, 1):
            self.assertIsNone(reached(program, limit))
        program = plain(2)
        many = len(reached(program, 1000))
        self.assertEqual(reached(program, many), reached(program, 1000))
        self.assertIsNone(reached(program, many - 1))

    def test_the_smallest_program(self):
        program = Program(sizes=(2,), parts=(PLAIN,))
        self.assertEqual(reached(program, 2), [((0,), 0, ()), ((0,), 0, ((0, 3),))])
        self.assertIsNone(reached(program, 1))

    def test_no_state_twice(self):
        for program in model.programs(40, 5):
            states = reached(program, 3000) or []
            self.assertEqual(len(states), len(set(states)))

    def test_a_new_list_each_time(self):
        program = plain(1)
        reached(program, 100).clear()
        self.assertGreater(len(reached(program, 100)), 1)


class Purity(unittest.TestCase):
    def test_nothing_is_modified(self):
        program = three(live=(0, 2), skips=(1,))
        told = repr(vars(program))
        states = reached(program, 10000)
        text = repr(states)
        for state in states:
            sight(program, state)
            reading(program, state)
            put(state[2], (0, 7))
            for act in acts(program, state):
                after(program, state, act)
        self.assertEqual(repr(vars(program)), told)
        self.assertEqual(repr(states), text)

    def test_states_are_tuples_throughout(self):
        program = three(live=(0, 2), skips=(1,))
        for state in reached(program, 10000):
            values, _, queue = state
            self.assertEqual({type(state), type(values), type(queue)}, {tuple})
            self.assertEqual({type(message) for message in queue} | {tuple}, {tuple})
            self.assertIs(type(sight(program, state)), tuple)
            self.assertIs(type(reading(program, state)), tuple)


class Model(unittest.TestCase):
    def test_states_acts_sights_and_readings(self):
        for program in model.programs(150, 1):
            states, _ = model.all_states(program, 150)
            for state in states[:150]:
                self.assert_alike(program, state)

    def assert_alike(self, program, state):
        told = model.Screen(program, state)
        self.assertEqual(sight(program, state), (*told.shown(0), told.focus))
        self.assertEqual(reading(program, state), (*told.shown(1), told.focus))
        self.assertEqual(acts(program, state), told.allowed())
        for act in told.allowed():
            other = model.Screen(program, state)
            spoken = other.do(act)
            self.assertEqual(after(program, state, act), (other.state(), spoken))

    def test_reached(self):
        whole = 0
        for program in model.programs(150, 2):
            states, is_all = model.all_states(program, 400)
            if is_all:
                whole += 1
                self.assertEqual(reached(program, len(states)), states)
            self.assertIsNone(reached(program, len(states) - 1))
        self.assertGreater(whole, 20)


if __name__ == "__main__":
    unittest.main()
