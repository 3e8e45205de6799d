"""Point 62, with points 2 and 3: the checker, on rows of the judge and on others."""

import copy
import random
import unittest

from tests import judging, model
from tests.judging import LAMP, PAIRS, PANEL
from twoknowers.judge import certificate, check
from twoknowers.program import Program
from twoknowers.screen import reached

WATCH, READER, LISTENER = ("watch", False), ("read", True), ("listen", True)
ECHO = Program(sizes=(2,), parts=(((0, (4, 4)), (0, (0, 1)), None),))
OFF, OFF_SAID = ((0,), 0, ()), ((0,), 0, ((0, 0),))
BOTH = OFF, OFF_SAID
# the certificate of this program for one who watches and one who reads and acts
ROWS = [(OFF, BOTH, OFF, (1,)), (OFF_SAID, BOTH, OFF_SAID, (2, 3, 1)),
        (OFF, BOTH, OFF_SAID, (0, 1)), (OFF_SAID, BOTH, OFF, (0, 1))]
# tuples that are no states of this program, some of them of no program at all
NO_STATES = (
    (), ((),), ((), (), ()), ((0,), 0), ((0,), 0, (), ()), (0, 0, ()), ((0, 0), 0, ()), ((), 0, ()),
    ((2,), 0, ()), ((-1,), 0, ()), ((0,), 1, ()), ((0,), -1, ()), ((0,), 0, 0), ((0,), 0, (0, 0)),
    ((0,), 0, ((0,),)), ((0,), 0, ((0, 1),)), ((0,), 0, ((1, 0),)), ((0,), 0, ((0, 0), (0, 0))),
    (("0",), 0, ()), ((None,), 0, ()), ((0,), None, ()), ((0,), 0, None), ((0,), "0", ()),
    ([0], 0, ()), ((0,), 0, []), ((0,), 0, ([0, 0],)), ((0,), {}, ()), ({0}, 0, ()), (0,) * 1000,
    ("speak",), (("next",),), ((0,), (0,), (0,)), ((10 ** 50,), 0, ()), ((0,), 10 ** 50, ()),
    ((False,), 0, ()), ((0,), False, ()), ((0,), 0, ((0, False),)), ((0.0,), 0, ()),
    ((0,), 0.0, ()), ((0,), 0, ((0.0, 0),)),
)


def deep(levels):
    found = ()
    for _ in range(levels):
        found = (found,)
    return found


def cases():
    """Certificates with several rows, each with its program and its observers."""
    chance = random.Random(91)
    found = [(ECHO, (WATCH, READER), ROWS)]
    for program in judging.small(60, 92, 20) + [LAMP]:
        for pair in chance.sample(PAIRS, 8):
            rows = certificate(program, *pair, 40)
            if rows is not None and len(rows) > 2:
                found.append((program, pair, rows))
    return found


CASES = cases()


def renamed(rows, order):
    """The rows in this order of their old numbers, with targets that follow them."""
    place = {old: new for new, old in enumerate(order)}
    return [(*rows[old][:3], tuple(place[target] for target in rows[old][3])) for old in order]


def another_order(rows, chance):
    """An order in which each row is still named by an earlier one."""
    order = [0]
    while len(order) < len(rows):
        ready = sorted({target for old in order for target in rows[old][3]} - set(order))
        order.append(chance.choice(ready))
    return order


def with_part(rows, at, part, value):
    """The rows with another value in one of the four places of one row."""
    row = (*rows[at][:part], value, *rows[at][part + 1:])
    return rows[:at] + [row] + rows[at + 1:]


def with_target(rows, at, which, target):
    targets = rows[at][3]
    return with_part(rows, at, 3, (*targets[:which], target, *targets[which + 1:]))


class Case(unittest.TestCase):
    def checked(self, wanted, program, pair, rows):
        before = copy.deepcopy(rows)
        self.assertIs(check(program, *pair, rows), wanted)
        self.assertEqual(repr(rows), repr(before))

    def agrees(self, program, pair, rows):
        """The checker and point 62 told a second time say the same."""
        wanted = judging.accepts(program, *pair, rows)
        self.checked(wanted, program, pair, rows)
        return wanted


class Orders(Case):
    def test_as_the_judge_told_them(self):
        self.assertGreater(len(CASES), 60)
        for program, pair, rows in CASES:
            self.checked(True, program, pair, rows)
            self.assertTrue(judging.accepts(program, *pair, rows))

    def test_copies_of_all_that_is_in_them(self):
        for program, pair, rows in CASES:
            self.checked(True, program, pair, eval(repr(rows)))

    def test_another_order_with_each_row_named_by_an_earlier_one(self):
        chance, others = random.Random(93), 0
        for program, pair, rows in CASES:
            for _ in range(3):
                order = another_order(rows, chance)
                others += order != sorted(order)
                self.checked(True, program, pair, renamed(rows, order))
        self.assertGreater(others, 60)

    def test_any_order(self):
        chance, counts = random.Random(94), {True: 0, False: 0}
        for program, pair, rows in CASES:
            for _ in range(3):
                order = [0] + chance.sample(range(1, len(rows)), len(rows) - 1)
                counts[self.agrees(program, pair, renamed(rows, order))] += 1
        self.assertGreater(min(counts.values()), 10)
        self.checked(True, ECHO, (WATCH, READER), renamed(ROWS, [0, 1, 3, 2]))
        self.checked(False, ECHO, (WATCH, READER), renamed(ROWS, [0, 2, 1, 3]))

    def test_another_row_ahead(self):
        for program, pair, rows in CASES:
            order = [1, 0] + list(range(2, len(rows)))
            self.checked(False, program, pair, renamed(rows, order))

    def test_a_row_left_out(self):
        chance = random.Random(95)
        for program, pair, rows in CASES:
            at = chance.randrange(len(rows))
            self.checked(False, program, pair, rows[:at] + rows[at + 1:])
            self.checked(False, program, pair, rows[:-1])

    def test_the_empty_list(self):
        for program, pair, _ in CASES:
            self.checked(False, program, pair, [])


class Twice(Case):
    def test_a_row_that_no_earlier_row_names(self):
        for program, pair, rows in CASES:
            for at in (0, len(rows) - 1):
                self.checked(False, program, pair, rows + [rows[at]])
        # one that only names itself, or is only named by a later one
        alone = (OFF_SAID, BOTH, OFF, (0, 4))
        self.checked(False, ECHO, (WATCH, READER), ROWS + [alone])
        self.checked(False, ECHO, (WATCH, READER),
                     ROWS + [(OFF, BOTH, OFF, (5,)), (*ROWS[1][:3], (2, 3, 5))])

    def test_a_row_twice_and_both_named(self):
        twice = [(OFF, BOTH, OFF, (1,)), (OFF_SAID, BOTH, OFF_SAID, (2, 3, 4)),
                 (OFF, BOTH, OFF_SAID, (0, 1)), (OFF_SAID, BOTH, OFF, (0, 4)),
                 (OFF_SAID, BOTH, OFF_SAID, (2, 3, 1))]
        self.checked(True, ECHO, (WATCH, READER), twice)
        # the first row again, at the end, named by the row before it
        again = [*ROWS[:3], (*ROWS[3][:3], (4, 1)), ROWS[0]]
        self.checked(True, ECHO, (WATCH, READER), again)

    def test_one_name_of_several_moved_to_the_second_row(self):
        chance, counts = random.Random(96), {True: 0, False: 0}
        for program, pair, rows in CASES:
            places = [(at, which) for at, row in enumerate(rows) for which in range(len(row[3]))]
            for at, which in chance.sample(places, min(4, len(places))):
                more = rows + [rows[rows[at][3][which]]]
                found = with_target(more, at, which, len(rows))
                counts[self.agrees(program, pair, found)] += 1
        self.assertGreater(min(counts.values()), 5)


class Targets(Case):
    def test_one_changed(self):
        chance = random.Random(97)
        for program, pair, rows in CASES:
            for _ in range(4):
                at = chance.randrange(len(rows))
                if rows[at][3]:
                    which = chance.randrange(len(rows[at][3]))
                    old = rows[at][3][which]
                    for target in (old - 1, old + 1, -1, -2, len(rows), old - len(rows),
                                   old + len(rows), len(rows) - 1, 0, 10 ** 30, -10 ** 30):
                        # all nodes are unlike, so there is one right target
                        self.checked(target == old, program, pair,
                                     with_target(rows, at, which, target))

    def test_too_few_and_too_many(self):
        for program, pair, rows in CASES:
            for at in (0, len(rows) // 2, len(rows) - 1):
                targets = rows[at][3]
                for others in (targets[:-1], targets[1:], targets + targets[-1:], targets + (0,),
                               (0,) + targets, ()):
                    self.checked(others == targets, program, pair,
                                 with_part(rows, at, 3, others))

    def test_true_is_no_number(self):
        self.checked(False, ECHO, (WATCH, READER), with_target(ROWS, 0, 0, True))
        self.checked(False, ECHO, (WATCH, READER), with_target(ROWS, 0, 0, 1.0))

    def test_two_in_the_other_order(self):
        self.checked(False, ECHO, (WATCH, READER), with_part(ROWS, 1, 3, (3, 2, 1)))
        self.checked(False, ECHO, (WATCH, READER), with_part(ROWS, 3, 3, (1, 0)))


class States(Case):
    def test_other_states_of_the_program(self):
        chance = random.Random(98)
        for program, pair, rows in CASES:
            for at in {0, 1, len(rows) - 1}:
                state = chance.choice(reached(program, 100))
                for part in (0, 2):
                    self.checked(state == rows[at][part], program, pair,
                                 with_part(rows, at, part, state))

    def test_what_is_held(self):
        chance = random.Random(99)
        for program, pair, rows in CASES:
            for at in {0, 1, len(rows) - 1}:
                held = rows[at][1]
                one = chance.randrange(len(held))
                state = chance.choice(model.all_states(program, 100)[0])
                for other in ((), held[:one] + held[one + 1:], held[:one + 1] + held[one:],
                              held[one:] + held[:one], held[::-1], held + held,
                              held[:one] + (state,) + held[one:],
                              held[:one] + (state,) + held[one + 1:]):
                    self.checked(other == held, program, pair, with_part(rows, at, 1, other))

    def test_the_same_in_all_rows(self):
        # with something else held everywhere, only the begin shows that it is not so
        for held in ((), (OFF,), (OFF_SAID,), (OFF_SAID, OFF), (OFF, OFF, OFF_SAID),
                     (OFF, OFF_SAID, ((1,), 0, ()))):
            rows = [(state, held, other, targets) for state, _, other, targets in ROWS]
            self.checked(False, ECHO, (WATCH, READER), rows)

    def test_tuples_that_are_no_states(self):
        for wrong in NO_STATES + (deep(5), deep(50000)):
            for at in range(4):
                _, held, _, _ = ROWS[at]
                for part, value in ((0, wrong), (2, wrong), (1, wrong), (1, (wrong,)),
                                    (1, (wrong, *held)), (1, (*held, wrong)),
                                    (1, (wrong, held[1])), (1, (held[0], wrong))):
                    rows = with_part(ROWS, at, part, value)
                    self.assertIs(check(ECHO, WATCH, READER, rows), False)
                everywhere = [(wrong, (wrong,), wrong, row[3]) for row in ROWS]
                self.assertIs(check(ECHO, WATCH, READER, everywhere), False)

    def test_tuples_that_are_no_states_in_other_certificates(self):
        chance = random.Random(100)
        for program, pair, rows in CASES:
            for _ in range(6):
                at, part = chance.randrange(len(rows)), chance.randrange(3)
                wrong = chance.choice(NO_STATES)
                if wrong == rows[at][part] and repr(wrong) == repr(rows[at][part]):
                    continue
                if part == 1:
                    one = chance.randrange(len(rows[at][1]))
                    if wrong == rows[at][1][one] and repr(wrong) == repr(rows[at][1][one]):
                        continue
                    wrong = rows[at][1][:one] + (wrong,) + rows[at][1][one + 1:]
                self.checked(False, program, pair, with_part(rows, at, part, wrong))

    def test_a_row_of_nothing(self):
        self.checked(False, ECHO, (WATCH, READER), [((), (), (), ())])
        self.checked(False, ECHO, (WATCH, READER), ROWS + [((), (), (), ())])
        self.checked(False, ECHO, (WATCH, READER), [(OFF, BOTH, OFF, ())])


class BadRows(Case):
    def test_all_nodes_and_one_of_them_bad(self):
        seen = 0
        for program in judging.small(60, 101, 12) + [LAMP]:
            for pair in PAIRS[::3]:
                nodes = judging.Nodes(program, *pair, 60)
                if not nodes.whole or not nodes.bad():
                    continue
                seen += 1
                # nothing but the bad row is wrong with them
                self.checked(False, program, pair, nodes.rows())
                self.assertEqual(len(nodes.rows()), len(nodes.found))
        self.assertGreater(seen, 30)

    def test_other_programs_and_observers(self):
        chance = random.Random(102)
        for program, pair, rows in CASES:
            for first, second in chance.sample(PAIRS, 6):
                self.agrees(program, (first, second), rows)
            other, _, other_rows = chance.choice(CASES)
            self.agrees(other, pair, rows)
            self.agrees(program, pair, other_rows)
        self.checked(False, LAMP, (WATCH, READER), ROWS)
        self.checked(False, PANEL, (WATCH, READER), ROWS)
        self.checked(False, ECHO, (LISTENER, READER), ROWS)
        self.checked(False, ECHO, (READER, WATCH), ROWS)


if __name__ == "__main__":
    unittest.main()
