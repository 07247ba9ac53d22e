"""Texts of works, courses, states and levels."""

import random
import re
import unittest

from surgekept.errors import InvalidCourse, InvalidLine, InvalidWorks
from surgekept.notation import format_book, format_levels, format_state, parse_book, parse_state
from surgekept.works import Course, Works
from tests.reference import all_states, book_text, large_cases, runs, small_cases, state_text

BOOK = "works 9 3 2 1 0\nhour 4 6 0 1\nhour 0 400 0 400 ship\n"
NO_NUMBERS = (
    "", "00", "01", "007", "-1", "-0", "+1", "1.0", "1_0", "1e1", "0x1", "x", "1x", "x1", "1,", "None", "True", "one",
    "1234567890", "0000000001", "1000000000", "12345678901234567890", "\u0661", "\u00b2", "\uff11", "1\u0661",
    "\t1", "1\t", "1\r", "\u00a01")


def fields(works):
    return works.wall, works.flow, works.pump, works.rest, works.deep


def replaced(words, at, word):
    return " ".join([*words[:at], word, *words[at + 1:]])


def spoilt(line):
    """Lines that have other words or spaces than a line of a text has."""
    words = line.split(" ")
    lines = [
        f" {line}", f"{line} ", f"{line} 1", f"{line} ship ship", f"{line} x", f"1 {line}",
        " ".join(words[:-1]), " ".join(words[1:]), words[0], "", " ", line.upper(), f"{line}\r",
        line.replace(" ", "\t"), line.replace(" ", "  ", 1), "  ".join(line.rsplit(" ", 1)), f"x{line}",
        line.replace(" ", ",")]
    numbers = [at for at, one in enumerate(words) if one.isdigit()]
    return lines + [replaced(words, at, word) for at in numbers for word in NO_NUMBERS]


class BookTest(unittest.TestCase):

    def refused(self, text, line):
        with self.subTest(text=text), self.assertRaises(InvalidLine) as caught:
            parse_book(text)
        self.assertEqual(caught.exception.line, line, text)

    def test_told_by_hand(self):
        works, course = parse_book(BOOK)
        self.assertIsInstance(works, Works)
        self.assertIsInstance(course, Course)
        self.assertEqual(fields(works), (9, 3, 2, 1, 0))
        self.assertEqual(course.hours, [(4, 6, 0, 1, False), (0, 400, 0, 400, True)])
        self.assertIsInstance(parse_book(BOOK), tuple)
        self.assertEqual(format_book(works, course), BOOK)

    def test_what_is_written_is_read_back(self):
        for numbers, hours in small_cases(101, 100) + large_cases(102, 10):
            text = format_book(Works(*numbers), Course(hours))
            self.assertEqual(text, book_text(numbers, hours))
            works, course = parse_book(text)
            self.assertEqual((fields(works), course.hours), (numbers, hours))

    def test_the_last_line_has_a_newline_ahead_of_all(self):
        for text, line in (
                ("", 1), ("x", 1), ("works 9 3 2 1 0", 1), (BOOK[:-1], 3), ("\nx", 2), ("\n\n\nx", 4),
                ("bad\nworse\nhour 4 6 0 1", 3), ("works 0 0 0 0 0\nhour 9 1 0 1", 2), (BOOK + " ", 4),
                ("works 9 3 2 1 0\nhour 9 9 9", 2), ("works 9 3 2 1 0\r", 1)):
            self.refused(text, line)

    def test_the_first_line_that_is_bad(self):
        lines = BOOK.split("\n")[:-1]
        for at, line in enumerate(lines):
            for bad in spoilt(line):
                if at > 0 and re.fullmatch("hour( (0|[1-9][0-9]{0,8})){4}( ship)?", bad):
                    continue
                changed = [*lines[:at], bad, *lines[at + 1:]]
                self.refused("\n".join(changed) + "\n", at + 1)
                # All lines behind it may be bad as well.
                self.refused("\n".join([*lines[:at], bad, "", "x"]) + "\n", at + 1)

    def test_words_that_are_close_to_a_ship(self):
        for word in ("Ship", "ships", "shi", "SHIP", "", "0", "1", "ship\r"):
            self.refused(f"works 9 3 2 1 0\nhour 4 6 0 1 {word}\n", 2)
        for line in (
                "hour ship 4 6 0 1", "hour 4 6 0 ship", "hour 4 6 ship", "ship", "hour ship", "hour 4 6 0 1 2 ship"):
            self.refused(f"works 9 3 2 1 0\n{line}\n", 2)

    def test_lines_out_of_order(self):
        for text, line in (
                ("hour 4 6 0 1\nworks 9 3 2 1 0\n", 1), ("hour 4 6 0 1\n", 1),
                ("works 9 3 2 1 0\nworks 9 3 2 1 0\nhour 4 6 0 1\n", 2),
                ("works 9 3 2 1 0\nhour 4 6 0 1\nworks 9 3 2 1 0\n", 3),
                ("\n" + BOOK, 1), (BOOK + "\n", 4), ("works 9 3 2 1 0\n\nhour 4 6 0 1\n", 2), ("\n", 1), ("\n\n", 1)):
            self.refused(text, line)

    def test_bad_lines_come_ahead_of_bad_works_and_courses(self):
        self.refused("works 0 3 2 1 0\nhour 4 6 0 1\nhour\n", 3)
        self.refused("works 9 3 2 1 0\nhour 6 4 0 1\nhour 4 6 0 01\n", 3)
        self.refused("works 9 3 2 1 0\n" + "hour 4 6 0 1\n" * 80 + "x\n", 82)

    def test_bad_works_come_ahead_of_bad_courses(self):
        for works in ("0 3 2 1 0", "201 3 2 1 0", "9 0 2 1 0", "9 401 2 1 0", "9 3 401 1 0", "9 3 2 0 0",
                      "9 3 2 7 0", "9 3 2 1 10", "999999999 3 2 1 0"):
            for hours in ("", "hour 4 6 0 1\n", "hour 6 4 0 1\n", "hour 4 401 0 1\n", "hour 4 6 0 1\n" * 73):
                with self.subTest(works=works, hours=hours), self.assertRaises(InvalidWorks):
                    parse_book(f"works {works}\n{hours}")

    def test_bad_courses(self):
        for hours in (
                "", "hour 6 4 0 1\n", "hour 4 6 1 0\n", "hour 4 401 0 1\n", "hour 4 6 0 401\n",
                "hour 4 999999999 0 1\n", "hour 4 6 0 1\n" * 73, "hour 4 6 0 1\nhour 6 4 0 1 ship\n"):
            with self.subTest(hours=hours), self.assertRaises(InvalidCourse):
                parse_book(f"works 9 3 2 1 0\n{hours}")
        self.assertEqual(parse_book("works 9 3 2 1 0\n" + "hour 4 6 0 1\n" * 72)[1].count(), 72)

    def test_nothing_is_changed(self):
        works, hours = Works(9, 3, 2, 1, 0), [(4, 6, 0, 1, False)]
        course = Course(hours)
        format_book(works, course)
        self.assertEqual((fields(works), course.hours), ((9, 3, 2, 1, 0), [(4, 6, 0, 1, False)]))


class StateTest(unittest.TestCase):

    def test_what_is_written_is_read_back(self):
        for state in [*all_states((7, 1, 0, 6, 0)), (200, True, 6), (0, False, 1)]:
            self.assertEqual(format_state(state), state_text(state))
            read = parse_state(format_state(state))
            self.assertEqual(read, state)
            self.assertIsInstance(read, tuple)
            self.assertIsInstance(read[1], bool)

    def test_whether_works_have_it_or_not(self):
        for text, state in (
                ("5 open 1", (5, False, 1)), ("0 shut 0", (0, True, 0)), ("201 open 7", (201, False, 7)),
                ("999999999 shut 999999999", (999999999, True, 999999999))):
            self.assertEqual(parse_state(text), state)
            self.assertEqual(format_state(state), text)

    def test_texts_that_write_none(self):
        texts = [
            "", " ", "5", "5 open", "open 1", "5 open 1 1", "5 open 1 ", " 5 open 1", "5  open 1", "5 open  1",
            "5 Open 1", "5 OPEN 1", "5 closed 1", "5 opens 1", "5 True 1", "5 0 1", "5 1 open", "open 5 1",
            "5 open 1\n", "\n5 open 1", "5 open\n1", "5\topen\t1", "5 open 1\r", "state 5 open 1"]
        for word in NO_NUMBERS:
            texts += [f"{word} open 1", f"5 open {word}", f"5 {word} 1"]
        for text in texts:
            with self.subTest(text=text), self.assertRaises(InvalidLine) as caught:
                parse_state(text)
            self.assertEqual(caught.exception.line, 1)


class LevelsTest(unittest.TestCase):

    def test_told_by_hand(self):
        for levels, text in (
                ([], "none"), ([0], "0"), ([7], "7"), ([0, 1], "0-1"), ([2, 3, 4, 7], "2-4 7"), ([0, 2, 4], "0 2 4"),
                ([1, 3, 4], "1 3-4"), (list(range(201)), "0-200"), ([0, 199, 200], "0 199-200")):
            before = list(levels)
            self.assertEqual(format_levels(levels), text)
            self.assertEqual(levels, before)

    def test_any_levels(self):
        chance = random.Random(103)
        for _ in range(300):
            levels = sorted(chance.sample(range(25), chance.randint(1, 25)))
            expected = [str(low) if low == high else f"{low}-{high}" for low, high in runs(levels)]
            self.assertEqual(format_levels(levels), " ".join(expected))


if __name__ == "__main__":
    unittest.main()
