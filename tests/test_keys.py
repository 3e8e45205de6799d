"""Points 75 and 76, with points 23 and 71, and what points 1 and 3 say of them."""

import inspect
import unittest

from tests import finding, judging, model
from twoknowers import keys
from twoknowers.keys import first_keyless, keys_for
from twoknowers.program import Program
from twoknowers.screen import acts, after, reached, start

NEXT, PRESS, TICK = ("next",), ("press",), ("tick", 0)
PROGRAMS = judging.small(220, 120, 400)


def parts(*presses):
    """Parts that differ in their presses only."""
    return tuple(((0, (1, 2, 3)), (0, (1, 2, 3)), press) for press in presses)


def screen(*presses, **more):
    return Program(sizes=(3, 2), parts=parts(*presses), **more)


UP, TWO, OTHER = ((0, 1),), ((0, 2),), ((1, 1),)
FIRST = ((0, 0), 0, ())


class Interface(unittest.TestCase):
    def test_functions_and_arguments(self):
        listed = {"keys_for": ["program", "state", "part"], "first_keyless": ["program", "limit"]}
        for name, arguments in listed.items():
            function = getattr(keys, name)
            self.assertEqual(list(inspect.signature(function).parameters), arguments)
            self.assertEqual(function.__module__, "twoknowers.keys")


class KeysFor(unittest.TestCase):
    def test_a_part_that_has_the_focus_already(self):
        self.assertEqual(keys_for(screen(UP), FIRST, 0), [PRESS])
        self.assertEqual(keys_for(screen(UP, OTHER, TWO), FIRST, 0), [PRESS])
        self.assertEqual(keys_for(screen(UP, OTHER, TWO), ((2, 1), 2, ()), 2), [PRESS])

    def test_nexts_and_one_press(self):
        program = screen(UP, OTHER, TWO)
        self.assertEqual(keys_for(program, FIRST, 1), [NEXT, PRESS])
        self.assertEqual(keys_for(program, FIRST, 2), [NEXT, NEXT, PRESS])
        # from the last part on to part 0
        self.assertEqual(keys_for(program, ((1, 1), 2, ((2, 2),)), 1), [NEXT, NEXT, PRESS])
        self.assertEqual(keys_for(program, ((1, 1), 2, ((2, 2),)), 0), [NEXT, PRESS])

    def test_parts_without_a_press_on_the_way(self):
        program = screen(None, None, UP, None)
        self.assertEqual(keys_for(program, FIRST, 2), [NEXT, NEXT, PRESS])
        self.assertEqual(keys_for(program, ((0, 0), 3, ()), 2), [NEXT, NEXT, NEXT, PRESS])

    def test_skipped_parts(self):
        program = screen(UP, OTHER, TWO, skips=(1,))
        self.assertEqual(keys_for(program, FIRST, 2), [NEXT, PRESS])
        self.assertIsNone(keys_for(program, FIRST, 1))
        # part 0 has the focus at the start also if it is skipped, but not again
        program = screen(UP, OTHER, TWO, skips=(0,))
        self.assertEqual(keys_for(program, FIRST, 0), [PRESS])
        self.assertIsNone(keys_for(program, ((0, 0), 1, ()), 0))

    def test_only_one_part_can_be_reached(self):
        for skips in ((1, 2), (0, 1, 2)):
            program = screen(UP, OTHER, TWO, skips=skips)
            self.assertEqual(keys_for(program, FIRST, 0), [PRESS])
            self.assertIsNone(keys_for(program, FIRST, 1))
            self.assertIsNone(keys_for(program, FIRST, 2))
        program = screen(UP, OTHER, TWO, skips=(0, 2))
        self.assertEqual(keys_for(program, FIRST, 1), [NEXT, PRESS])
        self.assertIsNone(keys_for(program, FIRST, 2))

    def test_parts_whose_presses_do_the_same(self):
        self.assertEqual(keys_for(screen(UP, UP), FIRST, 1), [PRESS])
        # twice by one is by two
        twice = screen(((0, 1), (0, 1)), OTHER, TWO)
        self.assertEqual(keys_for(twice, FIRST, 2), [PRESS])
        # at a skipped part that cannot be reached, another one does it
        self.assertEqual(keys_for(screen(OTHER, UP, UP, skips=(2,)), FIRST, 2), [NEXT, PRESS])
        # all the way round
        self.assertEqual(keys_for(screen(OTHER, UP, UP, skips=(2,)), ((0, 0), 1, ()), 0),
                         [NEXT, PRESS])

    def test_a_press_that_changes_nothing(self):
        self.assertEqual(keys_for(screen(((0, 3),), ((1, 2),)), FIRST, 1), [PRESS])
        self.assertIsNone(keys_for(screen(UP, ((1, 2),), skips=(1,)), FIRST, 1))

    def test_only_the_values_have_to_be_the_same(self):
        # the focus and the queue are others behind the keys than behind the point
        program = screen(UP, OTHER, live=(0,))
        self.assertEqual(keys_for(program, ((1, 0), 0, ((0, 2),)), 1), [NEXT, PRESS])

    def test_compared_with_all_lists(self):
        counts = {}
        for program in PROGRAMS:
            for state in reached(program, 400)[:40]:
                for part in [act[1] for act in acts(program, state) if act[0] == "point"]:
                    found = keys_for(program, state, part)
                    self.assertEqual(found, finding.keys_for(program, state, part))
                    many = None if found is None else len(found)
                    counts[many] = counts.get(many, 0) + 1
                    if found is not None:
                        self.check_keys(program, state, part, found)
        self.assertEqual(set(counts), {None, 1, 2, 3, 4})

    def check_keys(self, program, state, part, found):
        self.assertEqual(found, [NEXT] * (len(found) - 1) + [PRESS])
        self.assertLessEqual(len(found), len(program.parts))
        pointed, _ = after(program, state, ("point", part))
        for key in found:
            state, _ = after(program, state, key)
        self.assertEqual(state[0], pointed[0])

    def test_at_most_as_many_nexts_as_there_are_parts_less_one(self):
        for many in (1, 2, 3, 4):
            program = screen(*[None] * (many - 1), UP)
            self.assertEqual(keys_for(program, FIRST, many - 1), [NEXT] * (many - 1) + [PRESS])


class Keyless(unittest.TestCase):
    def test_never(self):
        self.assertEqual(first_keyless(screen(None), 100), ("never", 2))
        self.assertEqual(first_keyless(screen(OTHER), 100),
                         ("never", len(reached(screen(OTHER), 100))))
        self.assertEqual(first_keyless(screen(OTHER, TWO), 1000)[0], "never")

    def test_at_the_start(self):
        self.assertEqual(first_keyless(screen(OTHER, UP, skips=(1,)), 100), ("run", [], 1))
        self.assertEqual(first_keyless(screen(OTHER, OTHER, UP, TWO, skips=(2, 3)), 100),
                         ("run", [], 2))

    def test_at_a_state_with_new_states_ahead_and_behind_it(self):
        # a point ahead of it leads to a new state, those behind it would do so, too
        program = screen(OTHER, UP, TWO, skips=(1,))
        self.assertEqual(first_keyless(program, 2), ("run", [], 1))
        self.assertEqual(first_keyless(program, 1), ("many",))
        self.assertEqual(first_keyless(screen(None, UP, TWO, skips=(1,)), 1), ("run", [], 1))

    def test_later(self):
        # part 0 is skipped: it can be pressed until the focus is gone
        program = screen(OTHER, UP, skips=(0,))
        self.assertEqual(first_keyless(program, 100), ("run", [NEXT], 0))
        self.assertEqual(first_keyless(program, 1), ("many",))
        # the points at the first state lead to two new states ahead of the next
        self.assertEqual(first_keyless(program, 3), ("many",))
        least = finding.Search(program, finding.is_keyless).met
        self.assertEqual(first_keyless(program, least), ("run", [NEXT], 0))
        self.assertEqual(first_keyless(program, least - 1), ("many",))

    def test_all_answers_with_all_limits(self):
        counts = {}
        for program in PROGRAMS:
            search = finding.Search(program, finding.is_keyless)
            for limit in {1, 2, search.met - 1, search.met, search.met + 1, 500} - {0}:
                found, wanted = first_keyless(program, limit), search.answer(limit)
                if wanted[0] == "run":
                    wanted = "run", wanted[1], wanted[2][1]
                self.assertEqual(found, wanted)
                self.assertIs(type(found), tuple)
                counts[found[0]] = counts.get(found[0], 0) + 1
        self.assertGreater(min(counts["run"], counts["many"], counts["never"]), 50)

    def test_just_the_number_of_states(self):
        for program in PROGRAMS:
            found = first_keyless(program, 1000)
            if found[0] == "never":
                many = len(model.all_states(program, 1000)[0])
                self.assertEqual(found, ("never", many))
                self.assertEqual(first_keyless(program, many), found)
                self.assertEqual(first_keyless(program, many - 1), ("many",))

    def test_the_run_leads_to_the_state(self):
        for program in PROGRAMS:
            found = first_keyless(program, 1000)
            if found[0] == "run":
                state = start(program)
                for act in found[1]:
                    state, _ = after(program, state, act)
                self.assertIsNone(keys_for(program, state, found[2]))


class Purity(unittest.TestCase):
    def test_a_new_list_each_time(self):
        program = screen(UP, OTHER)
        keys_for(program, FIRST, 1).clear()
        self.assertEqual(keys_for(program, FIRST, 1), [NEXT, PRESS])
        program = screen(OTHER, UP, skips=(0,))
        before = repr(vars(program))
        found = first_keyless(program, 100)
        self.assertIs(type(found[1]), list)
        found[1].append(TICK)
        self.assertEqual(first_keyless(program, 100), ("run", [NEXT], 0))
        self.assertEqual(repr(vars(program)), before)


if __name__ == "__main__":
    unittest.main()
