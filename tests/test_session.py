"""Sessions: their beginning, their commands, and the errors that answer them."""

import random
import unittest

from surgekept.errors import InvalidCourse, InvalidLine, InvalidState, InvalidWorks
from surgekept.session import Session
from surgekept.works import Course, Works
from tests.reference import Model, all_states, book_text, small_cases, state_text

QUESTIONS = ("state", "course", "plan", "cost open", "cost shut", "beat open", "beat shut", "wall", "surge", "last")
NOT_ABOVE = ("act open 1 1", "plan", "cost shut", "beat open", "wall", "surge", "last")
NO_COMMANDS = (
    "", " ", "  ", "x", "states", "State", "STATE", "state ", " state", "state state", "state 1", "course 0",
    "act", "act open", "act open 5", "act open 5 0 0", "act 5 open 0", "act open  5 0", "act open 5 0 ",
    " act open 5 0", "act opened 5 0", "act OPEN 5 0", "act True 5 0", "act open five 0", "act open 05 0",
    "act open 5 00", "act open -5 0", "act open +5 0", "act open 5.0 0", "act open 1234567890 0",
    "act open 0000000005 0", "act open \u0665 0", "act open 5\t0", "act\topen\t5\t0", "act open 5 0\r",
    "narrow", "narrow 0", "narrow 0 4 6 0", "narrow 0 4 6 0 1 1", "narrow 0 4 6 0 1 ship", "narrow x 4 6 0 1",
    "narrow 0 4 6 0 01", "narrow 0 4 6 -1 1", "narrow 00 4 6 0 1", "narrow  0 4 6 0 1", "narrow 0 4 6 0 1234567890",
    "back 1", "back ", "backs", "plan open", "plan 0", "plans", "cost", "cost 1", "cost open shut", "cost Open",
    "cost open ", "cost  open", "beat", "beat closed", "beat open 1", "kept", "kept 0", "kept 0 open",
    "kept 0 open 1 1", "kept open 0 1", "kept 0 1 open", "kept 01 open 1", "kept 0 open 01", "kept 0 open -1",
    "kept 0 open one", "kept 0 open 1234567890", "wall 1", "wall ", "surge 1", "last 0", "walls", "transcript",
    "run", "moment", "help", "error", "> state", "= x", "session 5 open 1", "state\tcourse", "state;plan")


def begun(numbers, hours, state):
    return Session(book_text(numbers, hours), state_text(state))


def shown(session):
    """All that a session knows, in plain values."""
    number, state, course = session.moment()
    return number, state, tuple(course.hours)


class BeginningTest(unittest.TestCase):

    BOOK = "works 9 3 2 2 0\nhour 4 6 0 1\nhour 0 4 0 1 ship\n"

    def test_hour_0(self):
        session = Session(self.BOOK, "5 shut 2")
        number, state, course = session.moment()
        self.assertIsInstance(session.moment(), tuple)
        self.assertEqual((number, state), (0, (5, True, 2)))
        self.assertIsInstance(course, Course)
        self.assertEqual(course.hours, [(4, 6, 0, 1, False), (0, 4, 0, 1, True)])
        self.assertIsInstance(session.works, Works)
        self.assertEqual(
            [getattr(session.works, name) for name in ("wall", "flow", "pump", "rest", "deep")], [9, 3, 2, 2, 0])

    def test_the_order_of_the_errors(self):
        no_newline, bad_line = "works 0 3 2 2 0\nx\nhour 4 6 0 1", "works 0 3 2 2 0\nhour 9 6 0 1\nx\n"
        bad_works, bad_course = "works 0 3 2 2 0\nhour 9 6 0 1\n", "works 9 3 2 2 0\nhour 9 6 0 1\n"
        no_text, no_state = "5 closed 1", "10 open 1"
        for state in (no_text, no_state, "5 open 1"):
            for text, error, line in (
                    (no_newline, InvalidLine, 3), ("", InvalidLine, 1), (bad_line, InvalidLine, 3),
                    (bad_works, InvalidWorks, None), (bad_course, InvalidCourse, None)):
                with self.assertRaises(error) as caught:
                    Session(text, state)
                if line:
                    self.assertEqual(caught.exception.line, line)
        with self.assertRaises(InvalidLine) as caught:
            Session(self.BOOK, no_text)
        self.assertEqual(caught.exception.line, 1)
        for state in (no_state, "5 open 0", "5 open 3", "200 shut 1", "999999999 shut 999999999"):
            with self.assertRaises(InvalidState):
                Session(self.BOOK, state)
        for state in ("", "5 open 1\n", "5  open 1", "05 open 1", "5 open 01"):
            with self.assertRaises(InvalidLine):
                Session(self.BOOK, state)

    def test_the_example(self):
        session = Session("works 9 3 2 1 0\nhour 4 6 0 1\n", "5 open 1")
        self.assertEqual(session.run("plan"), ["open 0"])
        self.assertEqual(session.run("act open 6 1"), ["good 7"])


class AgainstTheModelTest(unittest.TestCase):

    def command(self, chance, model):
        """A command, most often one that fits the moment."""
        number, _, hours = model.now
        gate = chance.choice(("open", "shut"))
        which = chance.choice((number, chance.randint(0, len(hours)), chance.randint(0, len(hours) + 1)))
        hour = hours[min(which, len(hours) - 1)]
        now = hours[min(number, len(hours) - 1)]
        sea, river = chance.randint(now[0], now[1]), chance.randint(now[2], now[3])
        if chance.random() < 0.15:
            sea, river = chance.choice((
                (now[1] + 1, river), (max(0, now[0] - 1), river), (sea, now[3] + 1), (400, 401)))
        seas = sorted(chance.randint(hour[0], hour[1]) for _ in range(2))
        rivers = sorted(chance.randint(hour[2], hour[3]) for _ in range(2))
        if chance.random() < 0.2:
            seas, rivers = chance.choice((
                (seas[::-1], rivers), (seas, rivers[::-1]), ([0, 400], rivers), (seas, [0, 401]),
                ([0, hour[1]], [hour[2], hour[3] + 1])))
        return chance.choice((
            f"act {gate} {sea} {river}", f"act {gate} {sea} {river}",
            f"narrow {which} {seas[0]} {seas[1]} {rivers[0]} {rivers[1]}", "back",
            f"kept {which} {gate} {chance.randint(0, model.numbers[3] + (chance.random() < 0.3))}",
            chance.choice(QUESTIONS), chance.choice(QUESTIONS), chance.choice(NO_COMMANDS)))

    def test_small_ones(self):
        chance, seen = random.Random(111), {}
        for numbers, hours in small_cases(112, 260):
            state = chance.choice(all_states(numbers))
            session, model = begun(numbers, hours, state), Model(numbers, hours, state)
            for _ in range(40):
                command = self.command(chance, model)
                before = shown(session)
                answer = session.run(command)
                self.assertEqual(answer, model.answer(command), session.transcript())
                self.assertEqual(shown(session), model.now)
                if answer[0].startswith("error") or command.split(" ")[0] not in ("act", "narrow", "back"):
                    self.assertEqual(shown(session), before)
                kind = answer[0] if answer[0][0].isalpha() else "numbers"
                key = (command.split(" ")[0], kind if kind.startswith("error") else kind.split(" ")[0])
                seen[key] = seen.get(key, 0) + 1
        self.everything_was_met(seen)

    def everything_was_met(self, seen):
        for key in (
                ("state", "numbers"), ("course", "hour"), ("act", "good"), ("act", "bad"), ("act", "over"),
                ("act", "error InvalidState"), ("act", "error InvalidMove"), ("act", "error InvalidCommand"),
                ("narrow", "ok"), ("narrow", "error InvalidState"), ("narrow", "error InvalidCourse"),
                ("narrow", "error InvalidCommand"), ("back", "ok"), ("back", "error InvalidCommand"),
                ("plan", "open"), ("plan", "shut"), ("plan", "lost"), ("plan", "end"), ("plan", "error InvalidState"),
                ("cost", "numbers"), ("cost", "none"), ("cost", "error InvalidState"),
                ("beat", "numbers"), ("beat", "none"), ("beat", "error InvalidState"), ("beat", "error InvalidMove"),
                ("kept", "numbers"), ("kept", "none"), ("kept", "error InvalidState"),
                ("wall", "numbers"), ("wall", "none"), ("wall", "error InvalidState"), ("wall", "error InvalidCourse"),
                ("surge", "numbers"), ("surge", "none"), ("surge", "error InvalidState"),
                ("surge", "error InvalidCourse"), ("last", "numbers"), ("last", "none"),
                ("last", "error InvalidState"), ("last", "error InvalidCourse")):
            self.assertGreater(seen.get(key, 0), 3, key)


class CommandsTest(unittest.TestCase):

    HOURS = [(4, 6, 0, 1, False), (4, 9, 0, 2, False), (4, 6, 0, 1, True)]

    def setUp(self):
        self.session = begun((9, 3, 2, 2, 3), self.HOURS, (5, False, 2))

    def runs(self, *pairs):
        for command, answer in pairs:
            answer = answer if isinstance(answer, list) else [answer]
            self.assertEqual(self.session.run(command), answer, command)

    def test_all_answers(self):
        # Open, the first hour may bring 7 and the next one 9 + 2; shut for two hours, the
        # gate can be opened for the ship.
        self.runs(
            ("state", "0 5 open 2"), ("course", ["hour 4 6 0 1", "hour 4 9 0 2", "hour 4 6 0 1 ship"]),
            ("plan", "shut 2"), ("cost open", "none"), ("cost shut", "2"), ("beat open", "6 1"),
            ("beat shut", "none"), ("wall", "7"), ("surge", "391"), ("last", "0"),
            ("narrow 1 4 7 0 1", "ok"), ("course", ["hour 4 6 0 1", "hour 4 7 0 1", "hour 4 6 0 1 ship"]),
            ("plan", "open 0"), ("cost open", "0"), ("cost shut", "2"), ("beat open", "none"),
            ("wall", "7"), ("surge", "393"), ("last", "3"),
            ("act open 6 1", "good 7"), ("state", "1 7 open 2"), ("plan", "open 0"), ("beat shut", "4 1"),
            ("wall", "8"), ("surge", "1"), ("last", "2"),
            ("kept 1 open 2", "0-9"), ("kept 2 shut 1", "none"), ("kept 2 shut 2", "0-9"), ("kept 0 open 1", "0-9"),
            ("kept 3 shut 2", "0-9"), ("act open 7 1", "good 8"), ("act open 4 0", "good 5"), ("state", "3 5 open 2"),
            ("plan", "end"))

    def test_what_is_lost(self):
        self.runs(
            ("act open 6 1", "good 7"), ("plan", "lost"), ("cost open", "none"), ("cost shut", "none"),
            ("beat open", "9 2"), ("beat shut", "4 2"), ("wall", "11"), ("surge", "none"), ("last", "none"),
            ("kept 1 open 2", "0-4"), ("kept 0 open 1", "0"), ("kept 1 shut 1", "0-9"))

    def test_bad_and_over(self):
        self.runs(
            ("act shut 5 0", "good 3"), ("act shut 5 0", "good 1"), ("act shut 6 1", "bad 0"),
            ("state", "3 0 shut 2"), ("plan", "end"), ("back", "ok"), ("act open 4 0", "good 4"),
            ("back", "ok"), ("back", "ok"), ("back", "ok"), ("state", "0 5 open 2"),
            ("act open 6 1", "good 7"), ("act open 9 2", "over 11"), ("state", "2 11 open 2"))
        # A ship needs deep behind an open gate as well.
        self.session = begun((9, 3, 2, 2, 3), [(0, 4, 0, 1, True)], (5, False, 2))
        self.runs(("act open 0 0", "bad 2"), ("back", "ok"), ("act open 0 1", "good 3"))

    def test_over_comes_ahead_of_bad(self):
        self.session = begun((3, 3, 0, 1, 0), [(9, 9, 0, 0, True)], (2, True, 1))
        self.runs(("act open 9 0", "over 5"), ("back", "ok"), ("act shut 9 0", "bad 2"))

    def test_above_the_wall(self):
        self.runs(("act open 6 1", "good 7"), ("act open 9 2", "over 11"))
        for command in NOT_ABOVE:
            self.runs((command, "error InvalidState"))
        # Ahead of a gate that may not be moved and of a sea out of its bounds.
        self.runs(("act shut 400 400", "error InvalidState"), ("act open 999999999 0", "error InvalidState"))
        for command in ("act open 1", "plan 1", "cost", "beat up", "wall 1", "surge 1", "last 1"):
            self.runs((command, "error InvalidCommand"))
        self.runs(
            ("state", "2 11 open 2"), ("course", ["hour 4 6 0 1", "hour 4 9 0 2", "hour 4 6 0 1 ship"]),
            ("kept 2 open 2", "0-9"), ("narrow 2 4 5 0 1", "ok"), ("narrow 1 4 5 0 2", "error InvalidState"),
            ("narrow 2 4 6 0 1", "error InvalidCourse"), ("state", "2 11 open 2"),
            ("back", "ok"), ("back", "ok"), ("state", "1 7 open 2"))

    def test_above_the_wall_behind_the_last_hour(self):
        self.session = begun((5, 2, 0, 1, 0), [(9, 9, 0, 0, False)], (4, False, 1))
        self.runs(("act open 9 0", "over 6"), ("state", "1 6 open 1"))
        for command in NOT_ABOVE:
            self.runs((command, "error InvalidState"))
        self.runs(
            ("kept 1 shut 1", "0-5"), ("narrow 0 9 9 0 0", "error InvalidState"), ("back", "ok"), ("plan", "shut 1"))

    def test_behind_the_last_hour(self):
        self.runs(("act open 4 0", "good 4"), ("act open 4 0", "good 4"), ("act open 4 0", "good 4"), ("plan", "end"))
        for command in ("cost open", "cost shut", "beat open", "beat shut"):
            self.runs((command, "error InvalidState"))
        for command in ("wall", "surge", "last"):
            self.runs((command, "error InvalidCourse"))
        self.runs(
            ("act open 4 0", "error InvalidState"), ("act shut 400 400", "error InvalidState"),
            ("narrow 2 4 6 0 1", "error InvalidState"), ("narrow 3 4 6 0 1", "error InvalidState"),
            ("kept 3 open 1", "0-9"), ("kept 0 open 1", "0"), ("kept 0 open 2", "0-9"), ("state", "3 4 open 2"))

    def test_no_hour_more_comes_ahead_of_the_gate(self):
        self.session = begun((9, 3, 2, 2, 0), [(4, 6, 0, 1, False)], (5, False, 2))
        self.runs(
            ("act shut 4 0", "good 3"), ("act open 4 0", "error InvalidState"), ("cost open", "error InvalidState"),
            ("beat open", "error InvalidState"), ("state", "1 3 shut 1"))

    def test_a_gate_that_rests(self):
        self.runs(
            ("act shut 4 1", "good 4"), ("state", "1 4 shut 1"), ("act open 5 0", "error InvalidMove"),
            ("act open 400 400", "error InvalidMove"), ("cost open", "none"), ("beat open", "error InvalidMove"),
            ("act shut 10 0", "error InvalidMove"), ("act shut 9 3", "error InvalidMove"),
            ("act shut 3 0", "error InvalidMove"), ("act shut 999999999 0", "error InvalidMove"),
            ("state", "1 4 shut 1"), ("act shut 9 2", "good 4"), ("act open 4 1", "good 5"), ("state", "3 5 open 1"))

    def test_narrow(self):
        self.runs(
            ("narrow 1 4 10 0 2", "error InvalidCourse"), ("narrow 1 3 9 0 2", "error InvalidCourse"),
            ("narrow 1 4 9 0 3", "error InvalidCourse"), ("narrow 1 6 5 0 2", "error InvalidCourse"),
            ("narrow 1 4 9 2 1", "error InvalidCourse"), ("narrow 1 4 401 0 2", "error InvalidCourse"),
            ("narrow 3 4 9 0 2", "error InvalidState"), ("narrow 3 9 4 0 999", "error InvalidState"),
            ("narrow 72 0 0 0 0", "error InvalidState"), ("narrow 999999999 9 4 0 0", "error InvalidState"),
            ("course", ["hour 4 6 0 1", "hour 4 9 0 2", "hour 4 6 0 1 ship"]),
            ("narrow 1 4 9 0 2", "ok"), ("narrow 1 5 8 1 1", "ok"), ("narrow 1 4 8 1 1", "error InvalidCourse"),
            ("narrow 2 4 4 0 0", "ok"), ("narrow 0 4 4 0 0", "ok"),
            ("course", ["hour 4 4 0 0", "hour 5 8 1 1", "hour 4 4 0 0 ship"]),
            ("act open 5 0", "error InvalidMove"), ("act open 4 0", "good 4"),
            ("narrow 0 4 4 0 0", "error InvalidState"), ("narrow 0 9 4 0 0", "error InvalidState"),
            ("narrow 1 5 5 1 1", "ok"), ("act open 6 1", "error InvalidMove"), ("act open 5 1", "good 6"))

    def test_back(self):
        self.runs(
            ("back", "error InvalidCommand"), ("act open 4 1", "good 5"), ("narrow 1 4 7 0 1", "ok"),
            ("narrow 1 4 9 0 1", "error InvalidCourse"), ("act open 8 1", "error InvalidMove"), ("plan", "open 0"),
            ("act open 7 1", "good 8"), ("x", "error InvalidCommand"), ("state", "2 8 open 2"),
            ("back", "ok"), ("state", "1 5 open 2"), ("course", ["hour 4 6 0 1", "hour 4 7 0 1", "hour 4 6 0 1 ship"]),
            ("act open 8 1", "error InvalidMove"), ("narrow 2 5 5 1 1", "ok"),
            ("back", "ok"), ("course", ["hour 4 6 0 1", "hour 4 7 0 1", "hour 4 6 0 1 ship"]),
            ("back", "ok"), ("course", ["hour 4 6 0 1", "hour 4 9 0 2", "hour 4 6 0 1 ship"]), ("state", "1 5 open 2"),
            ("wall", "10"), ("plan", "lost"), ("narrow 1 4 7 0 1", "ok"), ("wall", "8"), ("plan", "open 0"),
            ("back", "ok"), ("wall", "10"), ("plan", "lost"),
            ("back", "ok"), ("state", "0 5 open 2"), ("back", "error InvalidCommand"), ("back", "error InvalidCommand"),
            ("state", "0 5 open 2"), ("act open 4 1", "good 5"))

    def test_the_hours_still_to_come_count_from_this_one(self):
        self.session = begun((6, 1, 3, 1, 0), [(9, 9, 0, 0, False)] * 5, (0, False, 1))
        self.runs(
            ("last", "5"), ("wall", "1"), ("act open 9 0", "good 1"), ("last", "4"), ("act open 9 0", "good 2"),
            ("act open 9 0", "good 3"), ("last", "2"), ("wall", "3"), ("act shut 9 0", "good 0"), ("last", "1"))
        self.session = begun((6, 1, 3, 1, 0), [(0, 400, 0, 0, False), (0, 9, 0, 0, False)], (0, False, 1))
        self.runs(("surge", "0"), ("act open 0 0", "good 0"), ("surge", "391"))

    def test_kept_numbers(self):
        for command in (
                "kept 4 open 1", "kept 999999999 open 1", "kept 0 open 0", "kept 0 shut 3", "kept 3 open 0",
                "kept 3 shut 999999999"):
            self.runs((command, "error InvalidState"))

    def test_commands_that_are_none(self):
        for command in NO_COMMANDS:
            before = shown(self.session)
            self.runs((command, "error InvalidCommand"))
            self.assertEqual(shown(self.session), before)
        self.runs(("back", "error InvalidCommand"), ("act open 6 1", "good 7"))
        for command in NO_COMMANDS:
            self.runs((command, "error InvalidCommand"))
        self.runs(("back", "ok"), ("back", "error InvalidCommand"))

    def test_questions_change_nothing(self):
        before = shown(self.session)
        first = [self.session.run(command) for command in QUESTIONS]
        self.assertEqual([self.session.run(command) for command in QUESTIONS], first)
        self.assertEqual(shown(self.session), before)
        self.runs(("back", "error InvalidCommand"))

    def test_a_changed_list_changes_nothing(self):
        for command in (*QUESTIONS, "narrow 0 4 6 0 1", "x", "kept 0 open 1"):
            answer = self.session.run(command)
            before = list(answer)
            answer.append("more")
            answer[0] = "other"
            if command != "narrow 0 4 6 0 1":
                self.assertEqual(self.session.run(command), before)
        hours = self.session.moment()[2].hours
        hours.clear()
        self.assertEqual(self.session.moment()[2].hours, self.HOURS)
        self.runs(("course", ["hour 4 6 0 1", "hour 4 9 0 2", "hour 4 6 0 1 ship"]), ("plan", "shut 2"))

    def test_the_moment(self):
        self.assertEqual(shown(self.session), (0, (5, False, 2), tuple(self.HOURS)))
        self.runs(("act shut 4 1", "good 4"), ("narrow 1 5 6 0 2", "ok"))
        self.assertEqual(shown(self.session), (1, (4, True, 1), (self.HOURS[0], (5, 6, 0, 2, False), self.HOURS[2])))


if __name__ == "__main__":
    unittest.main()
