"""Points 30 to 33, and what points 3 and 5 say of texts."""

import inspect
import random
import unittest

from tests import model, texts
from twoknowers import notation
from twoknowers.errors import BadLine, KnowError
from twoknowers.notation import parse_program, write_program
from twoknowers.program import Program

NAMES = ("sizes", "parts", "ticks", "live", "skips")
PAIR = (0, (0, 1))
SMALL = "sizes 2\npart\nlook 0 4 5\nword 0 0 1\n"
EXAMPLE = SMALL + "press 0 1\nlive 0\n"
LARGE = (
    "sizes 2 3 4\n"             # 1
    "part\n"                    # 2
    "look 0 4 5\n"              # 3
    "word 1 0 1 2\n"            # 4
    "press 0 1 1 2 2 3\n"       # 5
    "part\n"                    # 6
    "look 2 7 6 5 4\n"          # 7
    "word 0 0 0\n"              # 8
    "part\n"                    # 9
    "look 1 3 3 3\n"            # 10
    "word 2 0 1 2 3\n"          # 11
    "press 2 2\n"               # 12
    "tick 1 1\n"                # 13
    "tick 0 1 0 1\n"            # 14
    "live 0 2\n"                # 15
    "skips 1 2\n"               # 16
)


def told(program):
    return repr([getattr(program, name) for name in NAMES])


def changed(number, *lines, text=LARGE):
    """The text with these lines in place of the one with the number."""
    rows = text.split("\n")
    return "\n".join(rows[:number - 1] + list(lines) + rows[number:])


class Case(unittest.TestCase):
    def refused(self, number, text):
        with self.subTest(text=text):
            with self.assertRaises(BadLine) as caught:
                parse_program(text)
            self.assertEqual(caught.exception.value, number)
            self.assertIs(type(caught.exception.value), int)
            self.assertIsInstance(caught.exception, KnowError)

    def accepted(self, text):
        with self.subTest(text=text):
            self.assertEqual(write_program(parse_program(text)), text)


class Interface(unittest.TestCase):
    def test_functions_and_arguments(self):
        for name, arguments in (("write_program", ["program"]), ("parse_program", ["text"])):
            function = getattr(notation, name)
            self.assertEqual(list(inspect.signature(function).parameters), arguments)
            self.assertEqual(function.__module__, "twoknowers.notation")


class Written(Case):
    def test_the_examples_of_the_document(self):
        part = ((0, (4, 5)), (0, (0, 1)), ((0, 1),))
        self.assertEqual(write_program(Program(sizes=(2,), parts=(part,), live=(0,))), EXAMPLE)
        self.assertEqual(write_program(parse_program(SMALL)), SMALL)

    def test_a_large_program(self):
        program = Program(
            sizes=(2, 3, 4),
            parts=(((0, (4, 5)), (1, (0, 1, 2)), ((0, 1), (1, 2), (2, 3))),
                   ((2, (7, 6, 5, 4)), (0, (0, 0)), None),
                   ((1, (3, 3, 3)), (2, (0, 1, 2, 3)), ((2, 2),))),
            ticks=(((1, 1),), ((0, 1), (0, 1))), live=(0, 2), skips=(1, 2))
        self.assertEqual(write_program(program), LARGE)
        self.assertEqual(told(parse_program(LARGE)), told(program))

    def test_lines_that_may_be_left_out(self):
        part = (PAIR, PAIR, None)
        plain = "sizes 2\npart\nlook 0 0 1\nword 0 0 1\n"
        for more, lines in (({}, ""), ({"live": (0,)}, "live 0\n"), ({"skips": (0,)}, "skips 0\n"),
                            ({"ticks": (((0, 3),),)}, "tick 0 3\n"),
                            ({"live": (0,), "skips": (0,)}, "live 0\nskips 0\n"),
                            ({"ticks": (((0, 3),),) * 2}, "tick 0 3\ntick 0 3\n")):
            program = Program(sizes=(2,), parts=(part,), **more)
            self.assertEqual(write_program(program), plain + lines)
            self.assertEqual(told(parse_program(plain + lines)), told(program))

    def test_all_indexes(self):
        program = Program(sizes=(2,), parts=((PAIR, PAIR, None),) * 4, live=(0, 1, 2, 3),
                          skips=(0, 1, 2, 3))
        self.assertTrue(write_program(program).endswith("\nlive 0 1 2 3\nskips 0 1 2 3\n"))
        self.assertEqual(told(parse_program(write_program(program))), told(program))


class Alike(Case):
    def test_a_program_that_is_written_and_read(self):
        for program in model.programs(400, 21):
            before = told(program)
            text = write_program(program)
            self.assertIs(type(text), str)
            self.assertIsNone(texts.bad_line(text))
            read = parse_program(text)
            self.assertIs(type(read), Program)
            self.assertEqual(told(read), before)
            self.assertEqual(write_program(read), text)
            self.assertEqual(told(program), before)

    def test_different_programs_have_different_texts(self):
        found = {}
        for program in model.programs(400, 22):
            self.assertEqual(found.setdefault(write_program(program), told(program)),
                             told(program))
        self.assertGreater(len(found), 350)

    def test_what_is_told_of_the_characters_and_lines(self):
        for program in model.programs(60, 23):
            text = write_program(program)
            self.assertTrue(text.endswith("\n"))
            self.assertTrue(all(c == "\n" or " " <= c <= "~" and c != "%" for c in text))
            for line in text[:-1].split("\n"):
                words = line.split(" ")
                self.assertTrue(words[0].isalpha() and words[0].islower())
                self.assertTrue(all(len(word) == 1 and word in "01234567" for word in words[1:]))


class Ends(Case):
    def test_the_empty_text(self):
        self.refused(1, "")

    def test_no_line_feed_at_all(self):
        for text in ("sizes 2", "part", " ", "x", "sizes 9"):
            self.refused(1, text)

    def test_the_last_line_feed_is_missing(self):
        self.refused(4, SMALL[:-1])
        self.refused(6, EXAMPLE[:-1])
        self.refused(16, LARGE[:-1])

    def test_something_behind_the_last_line_feed(self):
        self.refused(5, SMALL + "live 0")
        self.refused(7, EXAMPLE + " ")
        self.refused(17, LARGE + "x")
        self.refused(17, LARGE + "\r")
        self.refused(3, "sizes 2\npart\nlook")
        self.refused(3, "sizes 2\npart\nlook 0 4 5")

    def test_a_line_feed_too_many(self):
        self.refused(5, SMALL + "\n")
        self.refused(17, LARGE + "\n")
        self.refused(17, LARGE + "\n\n")
        self.refused(17, LARGE + "\n" + LARGE)
        self.refused(1, "\n" + LARGE)
        self.refused(1, "\n")
        self.refused(4, changed(4, "", "word 1 0 1 2"))

    def test_a_text_twice(self):
        self.refused(5, SMALL + SMALL)
        self.refused(17, LARGE + LARGE)

    def test_a_text_that_ends_early(self):
        rows = LARGE.split("\n")[:-1]
        whole = (4, 5, 8, 11, 12, 13, 14, 15, 16)
        for long in range(17):
            text = "".join(f"{row}\n" for row in rows[:long])
            if long in whole:
                self.accepted(text)
            else:
                self.refused(long + 1, text)

    def test_the_first_wrong_line_counts(self):
        # the last line feed is missing, too, and lines behind are wrong
        self.refused(3, "sizes 2\npart\nlook 1 4 5\nword 0 0 9\nlive 5")
        self.refused(1, "sizes 5\npart\nlook 1 4 5\n")
        self.refused(13, changed(13, "tick", "tick"))


class Order(Case):
    def test_a_line_left_out(self):
        for number, wrong in ((1, 1), (2, 2), (3, 3), (4, 4), (6, 6), (7, 7), (8, 8), (9, 9),
                              (10, 10), (11, 11)):
            self.refused(wrong, changed(number))
        for number in (5, 12, 13, 14, 15, 16):
            self.accepted(changed(number))

    def test_a_line_doubled(self):
        rows = LARGE.split("\n")
        for number in range(1, 17):
            wrong = 15 if number in (13, 14) else number + 1
            self.refused(wrong, changed(number, rows[number - 1], rows[number - 1]))

    def test_lines_that_stand_in_another_order(self):
        self.refused(3, changed(3, "word 1 0 1 2", "look 0 4 5"))
        self.refused(3, changed(3, "press 0 1"))
        self.refused(4, changed(4, "press 0 1", "word 1 0 1 2"))
        self.refused(2, changed(2, "look 0 4 5"))
        self.refused(2, changed(2, "tick 0 1", "part"))
        self.refused(14, changed(14, "press 0 1"))
        self.refused(14, changed(14, "part"))
        self.refused(15, changed(14, "live 0", "tick 1 1").replace("live 0 2\n", ""))
        self.refused(16, changed(15, "skips 1", "live 0 2"))
        self.refused(16, changed(16, "part"))
        self.refused(17, LARGE + "live 0\n")
        self.refused(17, LARGE + "tick 0 1\n")
        self.refused(17, LARGE + "sizes 2\n")

    def test_five_parts(self):
        part = "part\nlook 0 4 5\nword 0 0 1\n"
        self.accepted("sizes 2\n" + part * 4)
        self.refused(14, "sizes 2\n" + part * 5)
        self.refused(18, "sizes 2\n" + (part + "press 0 1\n") * 5)

    def test_no_part(self):
        self.refused(2, "sizes 2\n")
        self.refused(2, "sizes 2\nlive 0\n")

    def test_three_ticks(self):
        self.accepted(SMALL + "tick 0 1\n" * 2)
        self.refused(7, SMALL + "tick 0 1\n" * 3)

    def test_first_words(self):
        for word in ("Sizes", "size", "sizess", "", "2", "0"):
            self.refused(1, changed(1, f"{word} 2 3 4"))
        for word in ("parts", "Part", "PART", "part ", " part", "part\t", "part 0"):
            self.refused(2, changed(2, word))
        for word in ("sizes", "part", "word", "press", "Look", "sight", "lo ok"):
            self.refused(3, changed(3, f"{word} 0 4 5"))
        for word in ("presses", "pres", "tock", "Tick", "Live", "skip"):
            self.refused(5, changed(5, f"{word} 0 1"))


class Words(Case):
    def test_spaces(self):
        for number, wrong in ((1, "sizes  2 3 4"), (1, " sizes 2 3 4"), (1, "sizes 2 3 4 "),
                              (2, "part "), (2, " part"), (3, "look 0 4  5"), (3, "look 0 4 5 "),
                              (4, "word  1 0 1 2"), (5, "press 0 1 1  2"), (13, "tick 1 1 "),
                              (14, " tick 0 1"), (15, "live 0  2"), (16, "skips 1 2 "),
                              (15, "live "), (16, "skips "), (5, "press "), (3, "look ")):
            self.refused(number, changed(number, wrong))

    def test_other_spaces_and_line_ends(self):
        for space in ("\t", "\xa0", "\x0b", "\x0c", "\r", "\x00", "\u3000", "\u2028", "_", ","):
            self.refused(1, changed(1, f"sizes{space}2 3 4"))
            self.refused(3, changed(3, f"look 0{space}4 5"))
            self.refused(15, changed(15, f"live 0{space}2"))
            self.refused(16, changed(16, f"skips 1 2{space}"))
        self.refused(1, LARGE.replace("\n", "\r\n"))
        self.refused(1, LARGE.replace("\n", "\r"))
        self.refused(2, changed(2, "part\r"))
        for end in ("\x0b", "\x0c", "\x1c", "\x1d", "\x1e", "\x85", "\u2028", "\u2029", "\r"):
            self.refused(1, LARGE.replace("\n", end, 1))
            self.refused(16, LARGE[:-1] + end)
            self.refused(17, LARGE + end)

    def test_numbers_in_another_form(self):
        for two in ("02", "+2", "-2", "2.", "2.0", "0x2", "b", "two", "20", "2_", "\u0662",
                    "\uff12", "\xb2", "\u2461", "%", "None", "True"):
            self.refused(1, changed(1, f"sizes {two} 3 4"))
            self.refused(3, changed(3, f"look 0 {two} 5"))
            self.refused(5, changed(5, f"press 0 {two}"))
            self.refused(13, changed(13, f"tick {two} 1"))
            self.refused(15, changed(15, f"live 0 {two}"))
            self.refused(16, changed(16, f"skips 1 {two}"))

    def test_numbers_of_no_words(self):
        for number, wrong in ((1, "sizes"), (3, "look"), (4, "word"), (5, "press"), (13, "tick"),
                              (15, "live"), (16, "skips")):
            self.refused(number, changed(number, wrong))


class Numbers(Case):
    def test_sizes(self):
        rest = "part\nlook 0 4 5\nword 0 0 1\n"
        for right in ("2", "2 2", "2 4", "2 3 4", "2 4 4"):
            self.accepted(f"sizes {right}\n{rest}")
        for wrong in ("0", "1", "5", "9", "2 1", "2 5", "2 3 0", "2 3 5", "2 2 2 2", "1 2"):
            self.refused(1, f"sizes {wrong}\n{rest}")
        # other sizes are right, but not with what comes behind them
        self.refused(3, f"sizes 3\n{rest}")
        self.refused(3, f"sizes 4 2\n{rest}")

    def test_looks_and_words(self):
        for number, kind in ((3, "look"), (4, "word"), (7, "look"), (11, "word")):
            for right in ("0 0 7", "1 7 0 7", "2 1 2 3 4"):
                self.accepted(changed(number, f"{kind} {right}"))
            for wrong in ("0", "0 1", "0 1 2 3", "1 0 0", "1 0 0 0 0", "2 0 0 0", "2 0 0 0 0 0",
                          "3 0 0", "3", "9 0 0", "0 8 0", "0 0 8", "1 0 0 9", "2 0 0 8 0"):
                self.refused(number, changed(number, f"{kind} {wrong}"))

    def test_a_variable_that_does_not_exist(self):
        self.refused(3, "sizes 2\npart\nlook 1 4 5\nword 0 0 1\n")
        self.refused(4, "sizes 2\npart\nlook 0 4 5\nword 1 0 1\n")
        self.refused(5, SMALL + "press 1 1\n")
        self.refused(5, SMALL + "tick 1 1\n")
        self.refused(3, "sizes 2 2\npart\nlook 2 4 5\nword 0 0 1\n")
        self.accepted("sizes 2 2\npart\nlook 1 4 5\nword 0 0 1\npress 1 1\ntick 1 1\n")

    def test_changes(self):
        for number, kind in ((5, "press"), (12, "press"), (13, "tick"), (14, "tick")):
            for right in ("0 1", "0 2", "0 3", "1 3 1 3", "2 1 0 2 2 3"):
                self.accepted(changed(number, f"{kind} {right}"))
            for wrong in ("0", "0 0", "0 4", "0 9", "3 1", "9 1", "0 1 0", "0 1 0 0", "0 1 3 1",
                          "0 1 1 1 2", "0 1 1 1 2 4", "0 1 0 1 0 1 0", "0 1 0 1 0 1 0 1"):
                self.refused(number, changed(number, f"{kind} {wrong}"))

    def test_indexes(self):
        for number, kind in ((15, "live"), (16, "skips")):
            for right in ("0", "1", "2", "0 1", "0 2", "1 2", "0 1 2"):
                self.accepted(changed(number, f"{kind} {right}"))
            for wrong in ("3", "0 3", "9", "1 0", "2 1", "0 0", "1 1", "0 2 1", "0 1 1",
                          "0 1 2 3", "0 1 2 2", "2 0 1"):
                self.refused(number, changed(number, f"{kind} {wrong}"))
        self.refused(5, SMALL + "live 1\n")
        self.refused(5, SMALL + "skips 1\n")
        self.refused(6, SMALL + "live 0\nskips 1\n")


class Fuzz(Case):
    def test_texts_that_are_made_worse(self):
        chance = random.Random(31)
        right, numbers = 0, set()
        for program in model.programs(250, 32):
            text = write_program(program)
            for _ in range(20):
                wrong = texts.worse(text, chance)
                if chance.random() < 0.2:
                    wrong = texts.worse(wrong, chance)
                number = texts.bad_line(wrong)
                if number is None:
                    right += 1
                    self.accepted(wrong)
                else:
                    numbers.add(number)
                    self.refused(number, wrong)
        self.assertGreater(right, 100)
        self.assertGreater(len(numbers), 12)


if __name__ == "__main__":
    unittest.main()
