"""Points 80 to 82, with points 10 to 14, and what points 1 and 3 say of them."""

import copy
import inspect
import random
import unittest

from tests import judging, mending
from tests.judging import PAIRS
from twoknowers import repairs
from twoknowers.program import Program
from twoknowers.repairs import repair, repaired

UP = ((0, 1),)
SHOWN, SAME, WORDS, ONE_WORD = (0, (4, 5)), (0, (4, 4)), (0, (0, 1)), (0, (2, 2))
# a part that is pressed, and one that is skipped; none says anything by itself
PLAIN = Program(sizes=(2, 2), parts=((SHOWN, WORDS, UP), (SAME, WORDS, ((1, 1),))),
                ticks=(UP,), live=(), skips=(1,))
KEYS, FRESH, SAID = ("keys",), ("fresh",), ("said",)
ASK, LISTEN, WATCH, READ = ("ask", False), ("listen", False), ("watch", False), ("read", False)


def named(program):
    return {"sizes": program.sizes, "parts": program.parts, "ticks": program.ticks,
            "live": program.live, "skips": program.skips}


def with_parts(program, **more):
    """The attributes of the program with some of them replaced."""
    return {**named(program), **more}


def wide(**more):
    """A program with three parts and two variables."""
    parts = tuple((SHOWN, WORDS, None) for _ in range(3))
    return Program(sizes=(2, 3), parts=parts, ticks=(UP, ((1, 2),)), **more)


class Interface(unittest.TestCase):
    def test_functions_and_arguments(self):
        listed = {"repaired": ["program", "offers", "row"],
                  "repair": ["program", "offers", "wants", "limit"]}
        for name, arguments in listed.items():
            function = getattr(repairs, name)
            self.assertEqual(list(inspect.signature(function).parameters), arguments)
            self.assertEqual(function.__module__, "twoknowers.repairs")


class Repaired(unittest.TestCase):
    def changed(self, program, *changes):
        """The attributes of the program with these changes, which cost something."""
        before = repr(named(program))
        offers = [(at % 3, change) for at, change in enumerate(changes)]
        found = repaired(program, offers, tuple(range(len(changes))))
        self.assertIs(type(found), Program)
        self.assertEqual(repr(named(program)), before)
        return named(found)

    def test_live(self):
        for live, part, wanted in (((), 1, (1,)), ((0,), 2, (0, 2)), ((2,), 0, (0, 2)),
                                   ((0, 2), 1, (0, 1, 2)), ((1,), 1, (1,)),
                                   ((0, 1, 2), 2, (0, 1, 2))):
            self.assertEqual(self.changed(wide(live=live), ("live", part)),
                             with_parts(wide(), live=wanted))

    def test_mute(self):
        for live, part, wanted in (((), 1, ()), ((0,), 0, ()), ((0, 1, 2), 1, (0, 2)),
                                   ((1, 2), 0, (1, 2)), ((0, 2), 2, (0,))):
            self.assertEqual(self.changed(wide(live=live, skips=(1,)), ("mute", part)),
                             with_parts(wide(), live=wanted, skips=(1,)))

    def test_reach(self):
        for skips, part, wanted in (((), 1, ()), ((0,), 0, ()), ((0, 1, 2), 1, (0, 2)),
                                    ((1, 2), 0, (1, 2)), ((0, 2), 2, (0,))):
            self.assertEqual(self.changed(wide(live=(1,), skips=skips), ("reach", part)),
                             with_parts(wide(), live=(1,), skips=wanted))

    def test_word_and_look(self):
        pair = (1, (7, 0, 3))
        program = Program(sizes=(2, 3), parts=((SHOWN, WORDS, UP), (SAME, ONE_WORD, None)),
                          live=(1,), skips=(0,))
        one, two = program.parts
        for change, parts in ((("word", 0, pair), ((SHOWN, pair, UP), two)),
                              (("look", 0, pair), ((pair, WORDS, UP), two)),
                              (("word", 1, pair), (one, (SAME, pair, None))),
                              (("look", 1, pair), (one, (pair, ONE_WORD, None))),
                              # to what is so already
                              (("word", 0, WORDS), (one, two)), (("look", 1, SAME), (one, two))):
            self.assertEqual(self.changed(program, change), with_parts(program, parts=parts))

    def test_one_after_the_other(self):
        program = wide()
        self.assertEqual(self.changed(program, ("live", 1), ("mute", 1)), named(program))
        self.assertEqual(self.changed(program, ("mute", 1), ("live", 1)),
                         with_parts(program, live=(1,)))
        self.assertEqual(self.changed(program, ("live", 2), ("live", 0), ("live", 2)),
                         with_parts(program, live=(0, 2)))
        parts = self.changed(program, ("word", 2, SAME), ("look", 2, ONE_WORD),
                             ("word", 2, SHOWN), ("look", 0, SAME))["parts"]
        self.assertEqual(parts, ((SAME, WORDS, None), program.parts[1], (ONE_WORD, SHOWN, None)))

    def test_only_the_offers_of_the_row(self):
        offers = [(1, ("live", 0)), (1, ("live", 1)), (0, ("mute", 0)), (1, ("look", 0, SAME))]
        self.assertEqual(named(repaired(wide(), offers, ())), named(wide()))
        self.assertEqual(repaired(wide(), offers, (0,)).live, (0,))
        self.assertEqual(repaired(wide(), offers, (1, 2)).live, (1,))
        self.assertEqual(repaired(wide(), offers, (0, 1, 2)).live, (1,))
        self.assertEqual(repaired(wide(), offers, (3,)).parts[0], (SAME, WORDS, None))
        self.assertEqual(named(repaired(wide(live=(2,)), [], ())), named(wide(live=(2,))))

    def test_compared_with_another_way(self):
        chance = random.Random(140)
        for program, offers, _, _ in CASES:
            row = chance.choice(mending.rows(offers))
            self.assertEqual(named(repaired(program, offers, row)),
                             named(mending.repaired(program, offers, row)))


class Orders(unittest.TestCase):
    """Rows in their order, told by rows that are open: `limit` is too small for an answer."""

    def open_rows(self, *costs):
        # nothing makes a difference, and the answer is "many" for each row
        offers = [(cost, ("mute", 0)) for cost in costs]
        found, rows = repair(PLAIN, offers, [FRESH], 1)
        self.assertIsNone(found)
        self.assertEqual(rows, mending.rows(offers))
        return rows

    def test_without_offers(self):
        self.assertEqual(self.open_rows(), [()])

    def test_the_same_cost(self):
        self.assertEqual(self.open_rows(1, 1, 1), [
            (), (0,), (1,), (2,), (0, 1), (0, 2), (1, 2), (0, 1, 2)])

    def test_no_cost(self):
        self.assertEqual(self.open_rows(0, 0), [(), (0,), (1,), (0, 1)])
        self.assertEqual(self.open_rows(2, 0, 1), [
            (), (1,), (2,), (1, 2), (0,), (0, 1), (0, 2), (0, 1, 2)])

    def test_the_sum_comes_first_and_fewer_offers_then(self):
        self.assertEqual(self.open_rows(3, 1, 2), [
            (), (1,), (2,), (0,), (1, 2), (0, 1), (0, 2), (0, 1, 2)])
        self.assertEqual(self.open_rows(2, 1, 1)[:5], [(), (1,), (2,), (0,), (1, 2)])
        self.assertEqual(self.open_rows(9, 4, 4, 0)[:5], [(), (3,), (1,), (2,), (1, 3)])

    def test_large_costs(self):
        self.open_rows(10 ** 30, 1, 10 ** 30 + 1, 0, 10 ** 30)

    def test_many_offers(self):
        # only the rows up to the answer are made
        offers = [(1, ("mute", 0))] * 40 + [(2, ("live", 0))]
        found, rows = repair(ONE, offers, [SAID], 100)
        self.assertEqual((found, rows), ((40,), []))


# one part, pressed, whose look and word tell the same
ONE = Program(sizes=(2,), parts=((SHOWN, WORDS, UP),))


class Repairs(unittest.TestCase):
    def test_without_wants(self):
        self.assertEqual(repair(PLAIN, [(0, ("live", 0)), (0, ("live", 1))], [], 1), ((), []))
        self.assertEqual(repair(PLAIN, [], [], 1), ((), []))

    def test_without_offers(self):
        self.assertEqual(repair(PLAIN, [], [KEYS], 100), (None, []))
        self.assertEqual(repair(PLAIN, [], [KEYS], 2), (None, []))
        self.assertEqual(repair(PLAIN, [], [KEYS], 1), (None, [()]))
        self.assertEqual(repair(ONE, [], [KEYS], 100), ((), []))
        self.assertEqual(repair(ONE, [], [FRESH], 3), (None, [()]))

    def test_each_kind_of_want(self):
        live, reach = (1, ("live", 0)), (1, ("reach", 1))
        self.assertEqual(repair(ONE, [live], [SAID], 100), ((0,), []))
        self.assertEqual(repair(ONE, [live], [FRESH], 100), ((0,), []))
        self.assertEqual(repair(PLAIN, [live, reach], [KEYS], 1000), ((1,), []))
        self.assertEqual(repair(ONE, [live], [("tells", ASK, LISTEN)], 1000), ((0,), []))
        self.assertEqual(repair(ONE, [live], [("tells", ASK, WATCH)], 1000), ((), []))
        # the look tells nothing any more, then the word does not tell it
        same, one_word = (0, ("look", 0, SAME)), (0, ("word", 0, ONE_WORD))
        self.assertEqual(repair(ONE, [same, one_word], [("tells", WATCH, READ)], 1000)[0], ())
        muted = Program(sizes=(2,), parts=((SHOWN, ONE_WORD, UP),))
        self.assertEqual(repair(muted, [one_word, same], [("tells", WATCH, READ)], 1000)[0], (1,))

    def test_all_wants_at_once(self):
        offers = [(1, ("live", 0)), (2, ("reach", 1)), (1, ("live", 1))]
        self.assertEqual(repair(PLAIN, offers, [KEYS], 2000)[0], (1,))
        self.assertEqual(repair(PLAIN, offers, [SAID], 2000)[0], (0,))
        self.assertEqual(repair(PLAIN, offers, [SAID, KEYS], 2000)[0], (0, 1))
        self.assertEqual(repair(PLAIN, offers, [KEYS, SAID], 2000)[0], (0, 1))
        tells = "tells", ASK, WATCH
        self.assertEqual(repair(PLAIN, offers, [tells], 72), ((), []))
        self.assertEqual(repair(PLAIN, offers, [tells, KEYS], 1360), ((1,), []))
        self.assertEqual(repair(PLAIN, offers[1:2], [tells, KEYS], 1360), ((0,), []))
        self.assertEqual(repair(PLAIN, offers[1:2], [tells, KEYS], 1359), (None, [(0,)]))

    def test_no_row(self):
        offers = [(1, ("live", 1)), (1, ("mute", 1))]
        self.assertEqual(repair(PLAIN, offers, [KEYS], 2000), (None, []))

    def test_rows_that_are_told_with_it(self):
        # the live part has four states and is fresh; the other one has six, and one act is stale
        offers = [(1, ("mute", 0)), (1, ("live", 0)), (0, ("mute", 0))]
        self.assertEqual(repair(ONE, offers, [FRESH], 6), ((1,), []))
        self.assertEqual(repair(ONE, offers, [FRESH], 5), ((1,), [(), (2,), (0,)]))
        self.assertEqual(repair(ONE, offers, [FRESH], 4), ((1,), [(), (2,), (0,)]))
        self.assertEqual(repair(ONE, offers[1:2], [FRESH], 3), (None, [(), (0,)]))
        self.assertEqual(repair(ONE, offers[1:2], [SAID], 3), (None, [(0,)]))

    def test_a_row_with_a_want_that_is_answered_no_is_not_told(self):
        # at the first state the point is unsaid: "no", whatever the other want is answered
        for wants in ([SAID, FRESH], [FRESH, SAID]):
            self.assertEqual(repair(ONE, [(1, ("live", 0))], wants, 1), (None, [(0,)]))

    def test_compared_with_all_rows(self):
        counts = {}
        for program, offers, wants, limit in CASES:
            found = repair(program, offers, wants, limit)
            self.assertEqual(found, mending.repair(program, offers, wants, limit))
            self.assertEqual([type(each) for each in found][1:], [list])
            key = found[0] is None, bool(found[0]), bool(found[1])
            counts[key] = counts.get(key, 0) + 1
        # no row or one, an empty one or another, and rows that are told with it or none
        self.assertEqual(set(counts), {(True, False, False), (True, False, True),
                                       (False, False, False), (False, True, False),
                                       (False, True, True)})
        self.assertGreater(min(counts.values()), 8)


def cases():
    """Programs where little is said and most is skipped, with offers and wants."""
    chance, found = random.Random(141), []
    for program in judging.small(300, 142, 14):
        skips = tuple(range(len(program.parts)))[chance.randint(0, 1):]
        bare = Program(sizes=program.sizes, parts=program.parts, ticks=program.ticks,
                       skips=chance.choice((skips, skips, program.skips)))
        for _ in range(4):
            offers = [(chance.choice((0, 1, 1, 2, 3)), change(chance, bare))
                      for _ in range(chance.randint(1, 5))]
            wants = [want(chance) for _ in range(chance.choice((1, 1, 1, 2, 3)))]
            found.append((bare, offers, wants, chance.choice((4, 6, 9, 14, 20, 60))))
    return found


def change(chance, program):
    part = chance.randrange(len(program.parts))
    kind = chance.choice(("live", "live", "live", "reach", "reach", "mute", "word", "look"))
    if kind not in ("word", "look"):
        return kind, part
    if chance.random() < 0.5:
        return kind, part, chance.choice(program.parts)[chance.choice((0, 1))]
    variable = chance.randrange(len(program.sizes))
    return kind, part, (variable, tuple(chance.randint(0, 7)
                                        for _ in range(program.sizes[variable])))


def want(chance):
    if chance.random() < 0.6:
        return chance.choice((KEYS, FRESH, SAID))
    return ("tells", *chance.choice(PAIRS))


CASES = cases()


class Purity(unittest.TestCase):
    def test_nothing_is_modified(self):
        for program, offers, wants, limit in CASES[:60]:
            before = repr(named(program)), copy.deepcopy(offers), copy.deepcopy(wants)
            repair(program, offers, wants, limit)
            repaired(program, offers, tuple(range(len(offers))))
            self.assertEqual((repr(named(program)), offers, wants), before)

    def test_lists_can_be_changed_without_effect(self):
        offers, wants = [(1, ("live", 0))], [FRESH]
        found = repair(ONE, offers, wants, 1)
        changed = repaired(ONE, offers, (0,))
        offers[0] = (0, ("mute", 0))
        wants.clear()
        self.assertEqual((found, changed.live), ((None, [(), (0,)]), (0,)))
        found[1].clear()
        self.assertEqual(repair(ONE, [(1, ("live", 0))], [FRESH], 1), (None, [(), (0,)]))


if __name__ == "__main__":
    unittest.main()
