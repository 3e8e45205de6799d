"""Points 10 to 14, and what points 3 and 4 say of programs."""

import inspect
import unittest

from twoknowers.errors import BadProgram
from twoknowers.program import Program

PART = ((0, (1, 2)), (0, (3, 4)), None)
NAMES = ("sizes", "parts", "ticks", "live", "skips")


def pressed(changes):
    """A part of a variable of size 2 with this press."""
    return ((0, (1, 2)), (0, (3, 4)), changes)


def small(**more):
    """The arguments of a right program, some of them replaced."""
    return {"sizes": (2,), "parts": (PART,), **more}


class Case(unittest.TestCase):
    def refused(self, name, **more):
        with self.subTest(**more):
            with self.assertRaises(BadProgram) as caught:
                Program(**small(**more))
            self.assertEqual(caught.exception.value, name)

    def accepted(self, **more):
        with self.subTest(**more):
            passed = small(**more)
            program = Program(**passed)
            for name in NAMES:
                self.assertIs(getattr(program, name), passed.get(name, ()))


class Interface(Case):
    def test_arguments(self):
        arguments = inspect.signature(Program).parameters
        self.assertEqual(tuple(arguments), NAMES)
        for name, argument in arguments.items():
            self.assertEqual(argument.kind, inspect.Parameter.KEYWORD_ONLY)
            wanted = inspect.Parameter.empty if name in ("sizes", "parts") else ()
            self.assertEqual(argument.default, wanted)
        with self.assertRaises(TypeError):
            Program((2,), (PART,))
        self.assertEqual(Program.__module__, "twoknowers.program")

    def test_attributes_are_what_was_passed(self):
        self.accepted()
        self.accepted(ticks=(((0, 1),),), live=(0,), skips=(0,))

    def test_programs_do_not_share_anything(self):
        one = Program(**small(live=(0,)))
        two = Program(**small(skips=(0,)))
        self.assertEqual((one.live, one.skips), ((0,), ()))
        self.assertEqual((two.live, two.skips), ((), (0,)))


class Sizes(Case):
    def test_number_of_variables(self):
        self.accepted(sizes=(2,))
        self.accepted(sizes=(2, 3))
        self.accepted(sizes=(2, 3, 4))
        self.refused("sizes", sizes=())
        self.refused("sizes", sizes=(2, 2, 2, 2))

    def test_range_of_a_size(self):
        for size in (2, 3, 4):
            table = (0, 1, 2, 3)[:size]
            self.accepted(sizes=(size,), parts=(((0, table), (0, table), None),))
        for size in (-2, 0, 1, 5, 6, 10 ** 20):
            self.refused("sizes", sizes=(size,))
            self.refused("sizes", sizes=(2, 2, size))
            self.refused("sizes", sizes=(2, size, 2))

    def test_true_and_false_are_no_sizes(self):
        self.refused("sizes", sizes=(True,))
        self.refused("sizes", sizes=(2, False))

    def test_all_numbers_are_integers(self):
        self.refused("sizes", sizes=(2.0,))
        self.refused("sizes", sizes=(2, "2"))
        self.refused("parts", parts=(((0, (1, 2)), (0, (3, 4.0)), None),))
        self.refused("ticks", ticks=(((0, 1.0),),))
        self.refused("live", live=(0.0,))
        self.refused("skips", skips=(None,))


class Parts(Case):
    def test_number_of_parts(self):
        for many in (1, 2, 3, 4):
            self.accepted(parts=(PART,) * many)
        self.refused("parts", parts=())
        self.refused("parts", parts=(PART,) * 5)

    def test_look_and_word(self):
        right = (0, (0, 7))
        self.accepted(parts=((right, right, None),))
        wrong = (
            (1, (0, 7)), (-1, (0, 7)), (True, (0, 7)), (False, (0, 7)),
            (0, ()), (0, (0,)), (0, (0, 7, 7)),
            (0, (0, 8)), (0, (-1, 7)), (0, (8, 0)), (0, (0, -1)),
            (0, (True, 7)), (0, (0, False)),
        )
        for pair in wrong:
            self.refused("parts", parts=((pair, right, None),))
            self.refused("parts", parts=((right, pair, None),))
            self.refused("parts", parts=(PART, PART, PART, (right, pair, ((0, 1),))))

    def test_all_numbers_of_a_table(self):
        for entry in range(8):
            self.accepted(parts=(((0, (entry, 0)), (0, (0, entry)), None),))

    def test_a_table_is_as_long_as_its_variable(self):
        two = (0, (1, 2))
        for variable, table in ((1, (1, 2, 3)), (2, (1, 2, 3, 4))):
            right = (variable, table)
            self.accepted(sizes=(2, 3, 4), parts=((right, two, None), (two, right, None)))
            for wrong in ((variable, table[1:]), (variable, (*table, 5))):
                self.refused("parts", sizes=(2, 3, 4), parts=((wrong, two, None),))
                self.refused("parts", sizes=(2, 3, 4), parts=((two, wrong, None),))

    def test_look_and_word_may_be_of_unlike_variables(self):
        self.accepted(sizes=(2, 3), parts=(((0, (0, 1)), (1, (0, 1, 2)), None),))
        self.refused("parts", sizes=(2, 3), parts=(((3, (0, 1)), (1, (0, 1, 2)), None),))

    def test_number_of_changes_of_a_press(self):
        for many in (1, 2, 3):
            self.accepted(parts=(pressed(((0, 1),) * many),))
        self.refused("parts", parts=(pressed(()),))
        self.refused("parts", parts=(pressed(((0, 1),) * 4),))

    def test_changes_of_a_press(self):
        for add in (1, 2, 3):
            self.accepted(parts=(pressed(((0, add),)),))
        self.accepted(sizes=(2, 2), parts=(pressed(((1, 3), (0, 1), (1, 1))),))
        for wrong in ((0, 0), (0, 4), (0, -1), (0, True), (0, False),
                      (1, 1), (-1, 1), (False, 1), (True, 1)):
            self.refused("parts", parts=(pressed((wrong,)),))
            self.refused("parts", parts=(pressed(((0, 1), (0, 1), wrong)),))
            self.refused("parts", parts=(PART, pressed((wrong, (0, 1)))))


class Ticks(Case):
    def test_number_of_ticks(self):
        tick = ((0, 1),)
        for many in (0, 1, 2):
            self.accepted(ticks=(tick,) * many)
        self.refused("ticks", ticks=(tick,) * 3)

    def test_number_of_changes(self):
        for many in (1, 2, 3):
            self.accepted(ticks=(((0, 1),) * many,))
        self.refused("ticks", ticks=((),))
        self.refused("ticks", ticks=(((0, 1),), ()))
        self.refused("ticks", ticks=(((0, 1),) * 4,))

    def test_changes(self):
        self.accepted(sizes=(2, 2, 2), ticks=(((2, 3), (0, 1)), ((1, 2),)))
        for wrong in ((0, 0), (0, 4), (0, -1), (0, True), (0, False),
                      (1, 1), (-1, 1), (False, 1), (True, 1)):
            self.refused("ticks", ticks=((wrong,),))
            self.refused("ticks", ticks=(((0, 1),), ((0, 1), wrong)))


class LiveAndSkips(Case):
    def test_indexes(self):
        four = (PART,) * 4
        for name in ("live", "skips"):
            for right in ((), (0,), (3,), (0, 3), (1, 2), (0, 1, 2, 3)):
                self.accepted(parts=four, **{name: right})
            for wrong in ((4,), (-1,), (0, 4), (0, 1, 2, 3, 4), (-1, 0),
                          (1, 0), (0, 2, 1), (0, 0), (1, 1), (0, 3, 3), (2, 3, 0)):
                self.refused(name, parts=four, **{name: wrong})

    def test_they_are_those_of_the_parts(self):
        for name in ("live", "skips"):
            self.accepted(**{name: (0,)})
            self.refused(name, **{name: (1,)})
            self.accepted(parts=(PART, PART), **{name: (1,)})

    def test_true_and_false_are_no_indexes(self):
        for name in ("live", "skips"):
            for wrong in ((True,), (False,), (0, True), (False, 1)):
                self.refused(name, parts=(PART, PART), **{name: wrong})

    def test_all_parts_may_be_live_and_skipped(self):
        self.accepted(parts=(PART,) * 4, live=(0, 1, 2, 3), skips=(0, 1, 2, 3))


class Order(Case):
    def test_the_first_wrong_one_is_named(self):
        wrong = {"sizes": (2, 5), "parts": (), "ticks": ((),), "live": (4,), "skips": (1, 0)}
        for at in range(len(NAMES)):
            for behind in range(at + 1, len(NAMES)):
                self.refused(NAMES[at], **{name: wrong[name] for name in (NAMES[at], NAMES[behind])})
            self.refused(NAMES[at], **{name: wrong[name] for name in NAMES[at:]})

    def test_with_other_faults(self):
        bad_part = ((0, (1, 2)), (0, (3, 8)), None)
        self.refused("sizes", sizes=(1,), parts=(bad_part,), live=(True,))
        self.refused("sizes", sizes=(True, 2), ticks=(((0, True),),), skips=(9,))
        self.refused("parts", parts=(PART, bad_part), ticks=(((0, 4),),), live=(2,))
        self.refused("parts", parts=(bad_part,), skips=(0, 0))
        self.refused("ticks", ticks=(((1, 1),),), live=(0, 0), skips=(-1,))
        self.refused("live", live=(1,), skips=(1,))


if __name__ == "__main__":
    unittest.main()
