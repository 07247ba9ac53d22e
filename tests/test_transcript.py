"""Transcripts and their replay."""

import random
import re
import unittest

from surgekept.errors import InvalidCommand
from surgekept.session import Session, replay
from tests.reference import Model, all_states, book_text, small_cases, state_text

BOOK = "works 9 3 2 2 3\nhour 4 6 0 1\nhour 4 7 0 1\nhour 4 6 0 1 ship\n"
COMMANDS = (
    "state", "course", "plan", "x", "", "act open 6 1", "act open 400 0", "kept 1 open 2", "narrow 2 4 5 0 1",
    "narrow 0 4 5 0 1", "beat shut", "cost open", "back", "wall", "surge", "last", "back", "back", "  state")
TRANSCRIPT = """session 5 open 2
= works 9 3 2 2 3
= hour 4 6 0 1
= hour 4 7 0 1
= hour 4 6 0 1 ship
> state
0 5 open 2
> course
hour 4 6 0 1
hour 4 7 0 1
hour 4 6 0 1 ship
> plan
open 0
> x
error InvalidCommand
> 
error InvalidCommand
> act open 6 1
good 7
> act open 400 0
error InvalidMove
> kept 1 open 2
0-9
> narrow 2 4 5 0 1
ok
> narrow 0 4 5 0 1
error InvalidState
> beat shut
4 1
> cost open
0
> back
ok
> wall
8
> surge
1
> last
2
> back
ok
> back
error InvalidCommand
>   state
error InvalidCommand
"""


def lines_of(text):
    """The lines of a text, each with its newline if it has one."""
    return re.findall("[^\n]*\n|[^\n]+", text)


def first_difference(text, other):
    lines, others = lines_of(text), lines_of(other)
    for at in range(max(len(lines), len(others))):
        if lines[at:at + 1] != others[at:at + 1]:
            return at + 1
    return None


def shown(session):
    number, state, course = session.moment()
    return number, state, course.hours


def some_session(chance, numbers, hours):
    state = chance.choice(all_states(numbers))
    session = Session(book_text(numbers, hours), state_text(state))
    for _ in range(chance.randint(0, 12)):
        number, _, course = session.moment()
        low, high, river_low, river_high, _ = course.hours[min(number, len(hours) - 1)]
        session.run(chance.choice((
            f"act open {low} {river_high}", f"act shut {high} {river_low}", f"act open {high + 1} 0", "back", "plan",
            f"narrow {number} {low} {low} {river_low} {river_high}", "course", "state", "kept 0 open 1", "x", "")))
    return session


class TranscriptTest(unittest.TestCase):

    def test_told_by_hand(self):
        session = Session(BOOK, "5 open 2")
        self.assertEqual(session.transcript(), "".join(TRANSCRIPT.splitlines(True)[:5]))
        for command in COMMANDS:
            session.run(command)
        self.assertEqual(session.transcript(), TRANSCRIPT)

    def test_all_answers_stand_in_it(self):
        chance = random.Random(121)
        for numbers, hours in small_cases(122, 60):
            state = chance.choice(all_states(numbers))
            session, model = Session(book_text(numbers, hours), state_text(state)), Model(numbers, hours, state)
            expected = [f"session {state_text(state)}"]
            expected += [f"= {line}" for line in book_text(numbers, hours).split("\n")[:-1]]
            for command in chance.choices(COMMANDS, k=12):
                session.run(command)
                expected += [f"> {command}", *model.answer(command)]
                self.assertEqual(session.transcript(), "".join(f"{line}\n" for line in expected))

    def test_it_stays_right_when_a_list_is_changed(self):
        session = Session(BOOK, "5 open 2")
        for command in COMMANDS:
            answer = session.run(command)
            answer.insert(0, "more")
            answer[-1] = "other"
            session.moment()[2].hours.clear()
        self.assertEqual(session.transcript(), TRANSCRIPT)


class ReplayTest(unittest.TestCase):

    def replayed(self, text):
        """Replay a text; its own commands, run by hand, must lead to the same session."""
        session, line = replay(text)
        self.assertIsInstance(session, Session)
        self.assertEqual(line, first_difference(text, session.transcript()), text)
        lines = text.split("\n")
        book = re.match("(= [^\n]*\n)*", "\n".join([*lines[1:], ""])).group()
        other = Session(book.replace("= ", ""), lines[0][8:])
        for command in lines:
            if command[:2] == "> ":
                other.run(command[2:])
        self.assertEqual(session.transcript(), other.transcript())
        self.assertEqual(shown(session), shown(other))
        return line

    def test_a_transcript_is_the_same(self):
        self.assertIsInstance(replay(TRANSCRIPT), tuple)
        self.assertIsNone(self.replayed(TRANSCRIPT))
        chance = random.Random(123)
        for numbers, hours in small_cases(124, 60):
            session = some_session(chance, numbers, hours)
            self.assertIsNone(self.replayed(session.transcript()))
            again, _ = replay(session.transcript())
            self.assertEqual(shown(again), shown(session))
            self.assertEqual(again.run("back"), session.run("back"))

    def test_the_session_goes_on(self):
        session, _ = replay(TRANSCRIPT)
        self.assertEqual(session.run("act open 6 1"), ["good 7"])
        self.assertEqual(session.transcript(), TRANSCRIPT + "> act open 6 1\ngood 7\n")
        self.assertEqual(session.works.wall, 9)

    def test_an_answer_that_is_changed(self):
        lines = lines_of(TRANSCRIPT)
        for at, line in enumerate(lines):
            if at >= 5 and not line.startswith("> "):
                for other in (
                        "other\n", "\n", line[:-1] + " \n", " " + line, line[:-1] + "\r\n", "= " + line, ">" + line):
                    text = "".join([*lines[:at], other, *lines[at + 1:]])
                    self.assertEqual(self.replayed(text), at + 1, text)

    def test_a_command_that_is_changed(self):
        for old, new, line in (
                ("> state\n", "> course\n", 7), ("> act open 6 1\n", "> act open 5 1\n", 19),
                ("> plan\n", "plan\n", 12), ("> plan\n", ">plan\n", 12), ("> plan\n", ">  plan\n", 13),
                ("= hour 4 7 0 1\n", "= hour 4 8 0 1\n", 10), ("session 5 open 2", "session 4 open 2", 7),
                ("> x\n", "> y\n", None), ("> x\n", "> state\n", 15)):
            self.assertEqual(self.replayed(TRANSCRIPT.replace(old, new, 1)), line)

    def test_a_line_left_out_or_doubled(self):
        lines = lines_of(TRANSCRIPT)
        for at in range(1, len(lines)):
            if at != 1:
                self.replayed("".join([*lines[:at], *lines[at + 1:]]))
            if at > 1:
                self.replayed("".join([*lines[:at], lines[at], *lines[at:]]))
        without_an_answer = TRANSCRIPT.replace("0 5 open 2\n", "", 1)
        self.assertEqual(self.replayed(without_an_answer), 7)
        self.assertEqual(self.replayed(TRANSCRIPT.replace("> plan\n", "", 1)), 12)
        self.assertEqual(self.replayed(TRANSCRIPT.replace("> plan\n", "> plan\n> plan\n", 1)), 13)
        self.assertEqual(self.replayed(TRANSCRIPT.replace("0-9\n", "0-9\n0-9\n", 1)), 24)

    def test_cut_off(self):
        lines = lines_of(TRANSCRIPT)
        for many in range(5, len(lines)):
            text = "".join(lines[:many])
            is_whole = many == 5 or lines[many].startswith("> ")
            self.assertEqual(self.replayed(text), None if is_whole else many + 1)
            # Without its last newline the last line is the first that differs.
            self.assertEqual(self.replayed(text[:-1]), many)
        self.assertEqual(self.replayed(TRANSCRIPT[:-1]), len(lines))

    def test_cut_off_anywhere(self):
        begin = TRANSCRIPT.index("> state")
        for at in range(begin, len(TRANSCRIPT), 3):
            self.replayed(TRANSCRIPT[:at])

    def test_a_last_line_is_read_as_if_it_had_its_newline(self):
        head = "session 5 open 2\n= works 9 3 2 2 3\n= hour 4 6 0 1"
        self.assertEqual(self.replayed(head), 3)
        session, _ = replay(head)
        self.assertEqual(session.transcript(), head + "\n")
        self.assertEqual(self.replayed(head + "\n> act open 6 1"), 4)
        session, _ = replay(head + "\n> act open 6 1")
        self.assertEqual(shown(session)[:2], (1, (7, False, 2)))

    def test_lines_behind_its_end(self):
        many = len(lines_of(TRANSCRIPT))
        for more in ("\n", "x", "x\n", "= hour 4 6 0 1\n", "session 5 open 2\n", "\n\n", " ", TRANSCRIPT):
            self.assertEqual(self.replayed(TRANSCRIPT + more), many + 1)
        self.assertEqual(self.replayed(TRANSCRIPT + "> state\n"), many + 2)
        self.assertEqual(self.replayed(TRANSCRIPT + "> state"), many + 1)
        self.assertIsNone(self.replayed(TRANSCRIPT + "> state\n0 5 open 2\n"))
        self.assertEqual(self.replayed(TRANSCRIPT + "\n> state\n0 5 open 2\n"), many + 1)

    def test_the_text_ends_where_its_lines_do(self):
        head = "session 5 open 2\n= works 9 3 2 2 3\n= hour 4 6 0 1\n"
        self.assertIsNone(self.replayed(head))
        self.assertEqual(self.replayed(head + "> state\n0 5 open 2\n= hour 4 7 0 1\n"), 6)
        self.assertEqual(self.replayed(head + "x\n= hour 4 7 0 1\n"), 4)

    def test_texts_changed_by_chance(self):
        chance = random.Random(125)
        for numbers, hours in small_cases(126, 150):
            lines = lines_of(some_session(chance, numbers, hours).transcript())
            for _ in range(4):
                begin = len(hours) + 2
                at = chance.randint(begin, len(lines))
                way = chance.choice(("out", "twice", "other", "put"))
                put = {
                    "out": [], "twice": lines[at:at + 1] * 2, "other": ["> plan\n"],
                    "put": ["0 5 open 1\n", *lines[at:at + 1]]}[way]
                self.replayed("".join([*lines[:at], *put, *lines[at + 1:]]))

    def test_a_first_line_that_is_none(self):
        rest = TRANSCRIPT.partition("\n")[2]
        for first in (
                "", "session", "session ", "Session 5 open 2", "sessions 5 open 2", " session 5 open 2",
                "session5 open 2", "session\t5 open 2", "> session 5 open 2", "= session 5 open 2", "5 open 2",
                "> state", "x"):
            for text in (f"{first}\n{rest}", first, f"{first}\n"):
                with self.subTest(text=text), self.assertRaises(InvalidCommand):
                    replay(text)
        with self.assertRaises(InvalidCommand):
            replay("\n" + TRANSCRIPT)
        with self.assertRaises(InvalidCommand):
            replay(rest)

    def test_a_beginning_that_raises_an_error(self):
        for old, new in (
                ("session 5 open 2", "session 5 open"), ("session 5 open 2", "session 10 open 2"),
                ("session 5 open 2", "session 5 open 3"), ("session 5 open 2", "session 5 open 2 "),
                ("session 5 open 2", "session  5 open 2"), ("session 5 open 2", "session 05 open 2"),
                ("session 5 open 2\n", "session 5 open 2\n\n"), ("session 5 open 2\n", "session 5 open 2\n> state\n"),
                ("= works 9 3 2 2 3\n", ""), ("= works 9", "=  works 9"), ("= works 9", "=works 9"),
                ("= works 9", "= works 0"), ("= works 9", "= works 201"), ("= works 9", "= works 09"),
                ("= hour 4 6 0 1\n", "= hour 6 4 0 1\n"), ("= hour 4 6 0 1\n", "= hour 4 6 0\n"),
                ("= hour 4 6 0 1\n", "= \n"), ("= hour 4 6 0 1\n", "= hour 4 401 0 1\n"),
                ("= hour 4 6 0 1\n", "= hour 4 6 0 1\n" * 73), ("= hour 4 6 0 1\n", "x\n")):
            self.assertIn(old, TRANSCRIPT)
            with self.subTest(new=new), self.assertRaises(InvalidCommand):
                replay(TRANSCRIPT.replace(old, new, 1))
        for text in ("session 5 open 2\n", "session 5 open 2", "session 5 open 2\n= works 9 3 2 2 3\n"):
            with self.assertRaises(InvalidCommand):
                replay(text)


if __name__ == "__main__":
    unittest.main()
