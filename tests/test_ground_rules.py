"""What the document promises over the whole program: points 0.2 and 0.3."""

import ast
import copy
import pathlib
import unittest

import surgekept
from surgekept.notation import format_book, format_levels, format_state, parse_book
from surgekept.papers import judge_kept, judge_lost, kept_paper, lost_paper, stretches
from surgekept.plan import Plan
from surgekept.searches import greatest_surge, last_closing, wall_needed, walled
from surgekept.session import Session, replay
from surgekept.works import Course, Works, is_good, span

PACKAGE = pathlib.Path(surgekept.__file__).parent
HOURS = [(4, 6, 0, 1, False), (4, 9, 0, 2, False), (4, 6, 0, 1, True)]
STATE = (5, False, 2)


class OwnMeansTest(unittest.TestCase):

    def test_nothing_is_imported_from_outside(self):
        files = sorted(PACKAGE.glob("*.py"))
        self.assertEqual(
            [file.stem for file in files],
            ["__init__", "errors", "notation", "papers", "plan", "searches", "session", "works"])
        for file in files:
            for node in ast.walk(ast.parse(file.read_text())):
                self.assertNotIsInstance(node, ast.Import)
                if isinstance(node, ast.ImportFrom):
                    self.assertTrue(node.module.startswith("surgekept."), file)

    def test_nothing_is_read_or_printed(self):
        for file in PACKAGE.glob("*.py"):
            names = {node.id for node in ast.walk(ast.parse(file.read_text())) if isinstance(node, ast.Name)}
            self.assertEqual(names & {"open", "print", "input", "exec", "eval", "hash", "id"}, set(), file)


class ArgumentsTest(unittest.TestCase):

    def setUp(self):
        self.works = Works(9, 3, 2, 2, 3)
        self.hours = copy.deepcopy(HOURS)
        self.course = Course(self.hours)
        self.plan = Plan(self.works, self.course)

    def seen(self):
        wall = [self.works.wall, self.works.flow, self.works.pump, self.works.rest, self.works.deep]
        worst = [
            [self.plan.worst(number, (level, shut, since)) for level in range(10)]
            for number in range(4) for shut in (False, True) for since in (1, 2)]
        return [wall, list(self.course.hours), list(self.hours), worst, self.plan.works, self.plan.course]

    def test_no_function_changes_its_arguments(self):
        kept, lost, levels = kept_paper(self.plan), lost_paper(self.plan), [0, 1, 4]
        before = self.seen()
        papers = copy.deepcopy((kept, lost))
        for work in (
                lambda: kept_paper(self.plan), lambda: lost_paper(self.plan), lambda: stretches(levels),
                lambda: judge_kept(self.works, self.course, STATE, kept),
                lambda: judge_lost(self.works, self.course, STATE, lost),
                lambda: walled(self.works, 20), lambda: wall_needed(self.works, self.course, STATE),
                lambda: greatest_surge(self.works, self.course, STATE),
                lambda: last_closing(self.works, self.course, STATE),
                lambda: format_book(self.works, self.course), lambda: format_state(STATE),
                lambda: format_levels(levels), lambda: self.course.narrowed(1, (5, 6, 0, 1, False)),
                lambda: self.course.raised(7), lambda: span(self.works, self.course, 1, 5, False),
                lambda: is_good(self.works, self.course, 1, False, 5), lambda: self.plan.cost(0, STATE, True),
                lambda: self.plan.action(0, STATE), lambda: self.plan.beaten_by(0, STATE, False)):
            work()
            self.assertEqual(self.seen(), before)
            self.assertEqual((kept, lost), papers)
            self.assertEqual(levels, [0, 1, 4])

    def test_answers_are_the_same_each_time(self):
        for work in (
                lambda: kept_paper(self.plan), lambda: lost_paper(self.plan), lambda: stretches([0, 1, 4]),
                lambda: self.plan.levels(0, False, 2),
                lambda: Session(format_book(self.works, self.course), "5 open 2").run("course"),
                lambda: parse_book(format_book(self.works, self.course))[1].hours,
                lambda: Course(self.hours).hours, lambda: self.course.raised(1).hours):
            first = work()
            same = copy.deepcopy(first)
            first.reverse()
            first.append("more")
            self.assertEqual(work(), same)

    def test_two_sessions_do_not_meet(self):
        book = format_book(self.works, self.course)
        one, other = Session(book, "5 open 2"), Session(book, "5 open 2")
        one.run("act open 6 1")
        one.run("narrow 1 4 5 0 1")
        self.assertEqual(other.run("state"), ["0 5 open 2"])
        self.assertEqual(other.run("course"), ["hour 4 6 0 1", "hour 4 9 0 2", "hour 4 6 0 1 ship"])
        text = one.transcript()
        again, _ = replay(text)
        again.run("back")
        self.assertEqual(one.transcript(), text)
        self.assertEqual(one.run("state"), ["1 7 open 2"])


if __name__ == "__main__":
    unittest.main()
