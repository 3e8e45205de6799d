"""Points 70 and 71, with point 25, and what points 1 and 3 say of them."""

import inspect
import unittest

from tests import finding, judging, watching
from twoknowers import says
from twoknowers.program import Program
from twoknowers.says import first_stale, first_unsaid
from twoknowers.screen import acts, after, reached, start

NEXT, SPEAK, TICK, POINT = ("next",), ("speak",), ("tick", 0), ("point", 0)
SHOWN, SAME = (0, (4, 5)), (0, (4, 4))
WORDS, ONE_WORD = (0, (0, 1)), (0, (2, 2))
ADD = ((0, 1),)


def lamp(look=SHOWN, word=WORDS, press=ADD, **more):
    """One part over one variable of size 2."""
    return Program(sizes=(2,), parts=((look, word, press),), **more)


BOTH = ((first_stale, finding.is_stale), (first_unsaid, finding.is_unsaid))
PROGRAMS = judging.small(220, 110, 400)


class Interface(unittest.TestCase):
    def test_functions_and_arguments(self):
        for name in ("first_stale", "first_unsaid"):
            function = getattr(says, name)
            self.assertEqual(list(inspect.signature(function).parameters), ["program", "limit"])
            self.assertEqual(function.__module__, "twoknowers.says")


class Stale(unittest.TestCase):
    def test_a_message_that_keeps_its_word(self):
        # the word of a part that is not live changes while its message waits
        self.assertEqual(first_stale(lamp(), 100), ("run", [NEXT, POINT, SPEAK]))
        self.assertEqual(first_stale(lamp(press=None, ticks=(ADD,)), 100),
                         ("run", [NEXT, TICK, SPEAK]))

    def test_a_live_part_says_its_word_anew(self):
        self.assertEqual(first_stale(lamp(live=(0,)), 100), ("never", 4))

    def test_a_word_that_never_changes(self):
        self.assertEqual(first_stale(lamp(word=ONE_WORD), 100), ("never", 4))
        self.assertEqual(first_stale(lamp(press=None), 100), ("never", 2))

    def test_only_the_part_that_speaks_counts(self):
        # the second part has another word when the first one speaks, but says nothing itself
        parts = ((SHOWN, ONE_WORD, None), (SHOWN, WORDS, ADD))
        program = Program(sizes=(2,), parts=parts, skips=(1,))
        self.assertEqual(first_stale(program, 100), ("never", 4))
        # the second part speaks behind the first one
        program = Program(sizes=(2,), parts=parts)
        self.assertEqual(first_stale(program, 100), ("run", [NEXT, ("point", 1), SPEAK]))


class Unsaid(unittest.TestCase):
    def test_where_no_message_waits(self):
        self.assertEqual(first_unsaid(lamp(), 100), ("run", [POINT]))
        self.assertEqual(first_unsaid(lamp(press=None, ticks=(ADD,)), 100), ("run", [TICK]))
        # a live part says nothing where its look changes and its word does not
        self.assertEqual(first_unsaid(lamp(word=ONE_WORD, live=(0,)), 100), ("run", [POINT]))

    def test_where_the_message_with_the_present_word_waits(self):
        self.assertEqual(first_unsaid(lamp(live=(0,)), 100), ("never", 4))
        # the word stays where the look changes: the message of the step before has it, until it
        # is spoken
        steps = Program(sizes=(3,), parts=(((0, (4, 4, 5)), (0, (0, 1, 1)), None),),
                        ticks=(ADD,), live=(0,))
        self.assertEqual(first_unsaid(steps, 100), ("run", [TICK, SPEAK, TICK]))

    def test_where_an_older_word_waits(self):
        # the message of a live part has its present word, and one of another part can be left out
        # of a run, so an older word that waits is never in a shortest run
        parts = (((0, (4, 4, 5)), (0, (0, 1, 2)), None),)
        program = Program(sizes=(3,), parts=parts, ticks=(ADD,))
        self.assertEqual(first_unsaid(program, 100), ("run", [TICK, TICK]))
        self.assertTrue(finding.is_unsaid(program, ((1,), 0, ((0, 1),)), TICK))
        self.assertFalse(finding.is_unsaid(program, ((1,), 0, ((0, 2),)), TICK))

    def test_another_part_with_the_same_word(self):
        # the message of the second part has the word, but it is not the first part's
        parts = ((SHOWN, WORDS, None), (SAME, WORDS, None))
        program = Program(sizes=(2,), parts=parts, ticks=(ADD,), live=(1,))
        self.assertEqual(first_unsaid(program, 100), ("run", [TICK]))
        program = Program(sizes=(2,), parts=parts, ticks=(ADD,), live=(0,))
        self.assertEqual(first_unsaid(program, 100)[0], "never")

    def test_each_part_that_looks_another_way(self):
        parts = ((SHOWN, WORDS, None), (SHOWN, WORDS, None))
        for live, wanted in (((0,), "run"), ((1,), "run"), ((0, 1), "never"), ((), "run")):
            program = Program(sizes=(2,), parts=parts, ticks=(ADD,), live=live)
            self.assertEqual(first_unsaid(program, 100)[0], wanted)

    def test_looks_that_do_not_change(self):
        self.assertEqual(first_unsaid(lamp(look=SAME), 100), ("never", 6))
        twice = lamp(press=((0, 1), (0, 1)))
        self.assertEqual(first_unsaid(twice, 100), ("never", 2))


class Searches(unittest.TestCase):
    def test_all_answers_with_all_limits(self):
        counts = {}
        for program in PROGRAMS:
            for function, is_wanted in BOTH:
                search = finding.Search(program, is_wanted)
                for limit in {1, 2, search.met - 1, search.met, search.met + 1, 500} - {0}:
                    found = function(program, limit)
                    wanted = search.answer(limit)
                    if wanted[0] == "run":
                        wanted = "run", wanted[1] + [wanted[2]]
                    self.assertEqual(found, wanted)
                    self.assertIs(type(found), tuple)
                    key = function, found[0]
                    counts[key] = counts.get(key, 0) + 1
        self.assertEqual(len(counts), 6)
        self.assertGreater(min(counts.values()), 50)

    def test_just_the_number_of_states(self):
        for program in PROGRAMS:
            for function, _ in BOTH:
                found = function(program, 1000)
                if found[0] == "never":
                    many = len(reached(program, 1000))
                    self.assertEqual(found, ("never", many))
                    self.assertEqual(function(program, many), ("never", many))
                    self.assertEqual(function(program, many - 1), ("many",))

    def test_at_a_state_with_new_states_ahead_when_the_limit_is_met(self):
        # the point is unsaid ahead of the next, which leads to a new state
        self.assertEqual(first_unsaid(lamp(), 1), ("run", [POINT]))
        # the next leads to a new state ahead of the tick
        clock = lamp(press=None, ticks=(ADD,))
        self.assertEqual(first_unsaid(clock, 1), ("many",))
        self.assertEqual(first_unsaid(clock, 2), ("run", [TICK]))
        # some states are met before the speak is looked at
        least = finding.Search(lamp(), finding.is_stale).met
        self.assertEqual(first_stale(lamp(), least), ("run", [NEXT, POINT, SPEAK]))
        self.assertEqual(first_stale(lamp(), least - 1), ("many",))

    def test_no_run_is_shorter(self):
        seen = 0
        for program in PROGRAMS[:60]:
            if len(watching.histories(program, 3)) > 400:
                continue
            for function, is_wanted in BOTH:
                found = function(program, 1000)
                lengths = [len(run) + 1 for run, state in watching.histories(program, 3)
                           for act in acts(program, state) if is_wanted(program, state, act)]
                if found[0] == "never":
                    self.assertEqual(lengths, [])
                else:
                    seen += 1
                    self.assertEqual(min(lengths + [len(found[1])]), len(found[1]))
        self.assertGreater(seen, 20)

    def test_the_run_is_allowed_and_ends_so(self):
        for program in PROGRAMS:
            for function, is_wanted in BOTH:
                found = function(program, 1000)
                if found[0] == "run":
                    state = start(program)
                    for act in found[1][:-1]:
                        self.assertFalse(is_wanted(program, state, act))
                        state, _ = after(program, state, act)
                    self.assertIn(found[1][-1], acts(program, state))
                    self.assertTrue(is_wanted(program, state, found[1][-1]))


class Purity(unittest.TestCase):
    def test_a_new_list_each_time(self):
        program = lamp()
        before = repr(vars(program))
        for function, _ in BOTH:
            found = function(program, 100)
            text = repr(found)
            self.assertIs(type(found[1]), list)
            found[1].clear()
            self.assertEqual(repr(function(program, 100)), text)
        self.assertEqual(repr(vars(program)), before)


if __name__ == "__main__":
    unittest.main()
