"""The papers of plans, and what the judges say of them and of papers that are changed."""

import copy
import random
import unittest

from surgekept.errors import InvalidState
from surgekept.papers import judge_kept, judge_lost, kept_paper, lost_paper, stretches
from surgekept.plan import Plan
from surgekept.works import Course, Works
from tests.reference import PaperJudge, Table, WideTable, all_states, large_cases, runs, small_cases

SMALL = small_cases(81, 90)


def wide_cases(seed, many):
    """Walls up to 200, seas and rivers up to 400, few hours."""
    chance = random.Random(seed)
    cases = []
    for at in range(many):
        wall = 200 if at == 0 else chance.randint(30, 200)
        numbers = (
            wall, chance.randint(1, 400), chance.choice((chance.randint(0, 60), 400)),
            chance.randint(1, 3), chance.choice((0, wall // 4)))
        hours = []
        for _ in range(chance.randint(1, 3)):
            sea = sorted((chance.choice((0, 400, chance.randint(0, wall))), chance.randint(0, wall)))
            river = sorted((chance.randint(0, 30), chance.choice((0, 30, 400, chance.randint(0, 60)))))
            hours.append((*sea, *river, chance.random() < 0.2))
        cases.append((numbers, hours))
    return cases


class Case:
    """A plan with its papers, and the judge of the test's own."""

    def __init__(self, numbers, hours, kind_of_table=Table):
        self.numbers = numbers
        self.hours = hours
        self.table = kind_of_table(numbers, hours)
        self.judge = PaperJudge(self.table)
        self.works = Works(*numbers)
        self.course = Course(hours)
        plan = Plan(self.works, self.course)
        self.kept = kept_paper(plan)
        self.lost = lost_paper(plan)

    def says(self, state, paper):
        """What the two judges of the program say."""
        return (
            judge_kept(self.works, self.course, state, paper),
            judge_lost(self.works, self.course, state, paper))

    def says_itself(self, state, paper):
        return self.judge.kept(state, paper), self.judge.lost(state, paper)

    def rows(self, numbers_of_hours, kept):
        """The rows of point 4.4 by the table."""
        wall, _, _, rest, _ = self.numbers
        rows = []
        for number in numbers_of_hours:
            for shut in (False, True):
                for since in range(1, rest + 1):
                    levels = [
                        level for level in range(wall + 1)
                        if (self.table.worst(number, (level, shut, since)) is not None) == kept]
                    if levels:
                        rows.append((number, shut, since, [(low, high + 1) for low, high in runs(levels)]))
        return rows


class CasesTest(unittest.TestCase):
    """What the tests of papers share: cases that are worked out once."""

    @classmethod
    def setUpClass(cls):
        cls.small = [Case(numbers, hours) for numbers, hours in SMALL]
        cls.wide = [Case(numbers, hours, WideTable) for numbers, hours in wide_cases(82, 10)]


class StretchesTest(unittest.TestCase):

    def test_told_by_hand(self):
        for levels, expected in (
                ([], []), ([0], [(0, 1)]), ([7], [(7, 8)]), ([200], [(200, 201)]), ([0, 1, 2], [(0, 3)]),
                ([0, 2], [(0, 1), (2, 3)]), ([2, 3, 4, 7], [(2, 5), (7, 8)]),
                ([0, 1, 3, 4, 6, 9, 10], [(0, 2), (3, 5), (6, 7), (9, 11)]),
                (list(range(201)), [(0, 201)])):
            before = list(levels)
            self.assertEqual(stretches(levels), expected)
            self.assertEqual(levels, before)

    def test_they_are_as_long_as_they_can_be(self):
        chance = random.Random(83)
        for _ in range(300):
            levels = sorted(chance.sample(range(30), chance.randint(0, 30)))
            found = stretches(levels)
            self.assertEqual([level for begin, end in found for level in range(begin, end)], levels)
            self.assertTrue(all(isinstance(part, tuple) and part[0] < part[1] for part in found))
            self.assertTrue(all(one[1] < other[0] for one, other in zip(found, found[1:])))


class PapersOfPlansTest(CasesTest):

    def test_the_rows_and_their_order(self):
        for case in self.small + self.wide:
            many = len(case.hours)
            self.assertEqual(case.kept, case.rows(range(many + 1), True))
            self.assertEqual(case.lost, case.rows(range(many), False))

    def test_the_hour_behind_the_last_is_told_as_kept_alone(self):
        for case in self.small + self.wide:
            wall, _, _, rest, _ = case.numbers
            many = len(case.hours)
            last = [(many, shut, since, [(0, wall + 1)]) for shut in (False, True) for since in range(1, rest + 1)]
            self.assertEqual([row for row in case.kept if row[0] == many], last)
            self.assertEqual([row for row in case.lost if row[0] == many], [])
            self.assertTrue(all(row[3] for row in case.kept + case.lost))

    def test_some_rows_have_gaps(self):
        rows = [row for case in self.small for row in case.kept + case.lost]
        self.assertTrue(any(len(row[3]) > 1 for row in rows))

    def test_just_one_paper_is_right_for_each_state(self):
        met = {True: 0, False: 0}
        for case in self.small:
            for state in all_states(case.numbers):
                kept = case.table.worst(0, state) is not None
                met[kept] += 1
                self.assertEqual(case.says(state, case.kept), (kept, False))
                self.assertEqual(case.says(state, case.lost), (False, not kept))
                self.assertEqual(case.says_itself(state, case.kept), (kept, False))
                self.assertEqual(case.says_itself(state, case.lost), (False, not kept))
        self.assertGreater(min(met.values()), 300)

    def test_wide_ones(self):
        met = {True: 0, False: 0}
        for case in self.wide:
            for state in all_states(case.numbers)[::41]:
                kept = case.table.worst(0, state) is not None
                met[kept] += 1
                self.assertEqual(case.says(state, case.kept), (kept, False))
                self.assertEqual(case.says(state, case.lost), (False, not kept))
            state = random.Random(str(case.numbers)).choice(all_states(case.numbers))
            for paper in (case.kept, case.lost):
                self.assertEqual(case.says(state, paper), case.says_itself(state, paper))
        self.assertGreater(min(met.values()), 30)

    def test_long_courses(self):
        met = {True: 0, False: 0}
        for numbers, hours in large_cases(84, 6):
            works, course = Works(*numbers), Course(hours)
            plan = Plan(works, course)
            kept, lost = kept_paper(plan), lost_paper(plan)
            for state in all_states(numbers)[::101]:
                is_kept = plan.is_kept(0, state)
                met[is_kept] += 1
                self.assertIs(judge_kept(works, course, state, kept), is_kept)
                self.assertIs(judge_lost(works, course, state, lost), not is_kept)
                self.assertIs(judge_kept(works, course, state, lost), False)
                self.assertIs(judge_lost(works, course, state, kept), False)
        self.assertGreater(min(met.values()), 3)

    def test_new_lists(self):
        plan = Plan(Works(5, 1, 1, 1, 0), Course([(9, 9, 1, 3, False)]))
        for paper_of in (kept_paper, lost_paper):
            paper = paper_of(plan)
            before = copy.deepcopy(paper)
            paper[0][3].clear()
            paper.clear()
            self.assertEqual(paper_of(plan), before)

    def test_the_example(self):
        works, course = Works(5, 1, 1, 1, 0), Course([(9, 9, 1, 1, False)])
        self.assertEqual(kept_paper(Plan(works, course)), [
            (0, False, 1, [(0, 6)]), (0, True, 1, [(0, 6)]), (1, False, 1, [(0, 6)]), (1, True, 1, [(0, 6)])])
        self.assertIs(judge_lost(works, course, (5, False, 1), [(0, False, 1, [(5, 6)])]), False)
        self.assertEqual(lost_paper(Plan(works, course)), [])


def put(paper, at, row):
    return [*paper[:at], row, *paper[at:]]


def same_in_other_words(chance, paper):
    """A paper that tells the same states, changed in ways that point 4.1 allows, each alone or together."""
    paper = copy.deepcopy(paper)
    ways = chance.choice(("order", "twice", "empty", "cut", "levels", "all"))
    if ways in ("cut", "all"):
        paper = [(*row[:3], [(level, level + 1) for begin, end in row[3] for level in range(begin, end)])
                 for row in paper]
    if ways in ("levels", "all"):
        paper = [(*row[:3], row[3][::-1] + row[3][:1]) for row in paper]
    if ways in ("twice", "all") and paper:
        paper = put(paper, chance.randint(0, len(paper)), chance.choice(paper))
    if ways in ("empty", "all") and paper:
        paper = put(paper, chance.randint(0, len(paper)), (*chance.choice(paper)[:3], []))
    if ways in ("order", "all"):
        chance.shuffle(paper)
    return paper


def changed(chance, numbers, many, paper):
    """A paper with a row more or less, a level put in or left out, a gate turned, or another time."""
    wall, _, _, rest, _ = numbers
    at = chance.randrange(len(paper))
    number, shut, since, parts = paper[at]
    way = chance.choice(("less", "more", "in", "out", "turn", "since", "hour"))
    if way == "more":
        low = chance.randint(0, wall)
        row = (chance.randint(0, many), chance.random() < 0.5, chance.randint(1, rest), [(low, low + 1)])
        return put(paper, at, row)
    levels = [level for begin, end in parts for level in range(begin, end)]
    if way == "out" and levels:
        levels.remove(chance.choice((levels[0], levels[-1], chance.choice(levels))))
    if way == "in":
        levels.append(chance.randint(0, wall))
    row = {
        "turn": (number, not shut, since, parts),
        "since": (number, shut, chance.randint(1, rest), parts),
        "hour": (chance.randint(0, many), shut, since, parts),
    }.get(way, (number, shut, since, [(low, high + 1) for low, high in runs(sorted(set(levels)))]))
    return paper[:at] + ([] if way == "less" else [row]) + paper[at + 1:]


class ChangedPapersTest(CasesTest):

    def agree(self, case, state, paper, seen):
        before = copy.deepcopy(paper)
        said = case.says(state, paper)
        self.assertEqual(said, case.says_itself(state, paper), (case.numbers, case.hours, state, paper))
        self.assertTrue(all(one in (True, False) and isinstance(one, bool) for one in said))
        self.assertEqual(paper, before)
        seen[said] = seen.get(said, 0) + 1

    def test_small_ones(self):
        chance, seen = random.Random(85), {}
        for case in self.small:
            states = all_states(case.numbers)
            for whole in (case.kept, case.lost):
                for _ in range(12):
                    paper = copy.deepcopy(whole)
                    for _ in range(chance.choice((1, 1, 2, 4))):
                        paper = paper and changed(chance, case.numbers, len(case.hours), paper)
                    for state in chance.sample(states, min(4, len(states))):
                        self.agree(case, state, paper, seen)
        self.assertGreater(min(seen[key] for key in ((True, False), (False, True), (False, False))), 200, seen)

    def test_parts_of_papers(self):
        """The states that a plan meets are enough for a paper, and often all of them are needed."""
        chance, seen = random.Random(86), {}
        for case in self.small:
            for state in chance.sample(all_states(case.numbers), 3):
                whole = case.kept if case.table.worst(0, state) is not None else case.lost
                for _ in range(6):
                    paper = [row for row in whole if row[0] == 0 or chance.random() < 0.8]
                    level, shut, since = state
                    if chance.random() < 0.5:
                        paper = [row for row in paper if row[0] > 0] + [(0, shut, since, [(level, level + 1)])]
                    self.agree(case, state, paper, seen)
        self.assertGreater(min(seen[key] for key in ((True, False), (False, True), (False, False))), 50, seen)

    def test_wide_ones(self):
        chance, seen = random.Random(87), {}
        for case in self.wide:
            for whole in (case.kept, case.lost):
                for _ in range(2):
                    if whole:
                        paper = changed(chance, case.numbers, len(case.hours), copy.deepcopy(whole))
                        self.agree(case, chance.choice(all_states(case.numbers)), paper, seen)
        self.assertGreater(len(seen), 2, seen)

    def test_the_same_in_other_words(self):
        chance = random.Random(88)
        for case in self.small:
            for whole in (case.kept, case.lost):
                for _ in range(8):
                    paper = same_in_other_words(chance, whole)
                    for state in chance.sample(all_states(case.numbers), 3):
                        self.assertEqual(case.says(state, paper), case.says(state, whole), paper)

    def test_what_there_is_not_at_any_place(self):
        chance = random.Random(89)
        for case in self.small[:40]:
            many, (wall, _, _, rest, _) = len(case.hours), case.numbers
            for state in all_states(case.numbers):
                kept = case.table.worst(0, state) is not None
                paper = case.kept if kept else case.lost
                at = chance.choice((0, len(paper), chance.randint(0, len(paper))))
                for row in (
                        (-1, False, 1, [(0, 1)]), (many + 1, False, 1, [(0, 1)]), (100, True, 1, [(0, 1)]),
                        (-1, False, 1, []), (many + 1, True, 1, []), (0, False, 0, []), (0, True, rest + 1, []),
                        (0, False, 0, [(0, 1)]), (0, True, rest + 1, [(0, 1)]), (many, False, -1, [(0, 1)]),
                        (0, False, 1, [(-1, 1)]), (0, False, 1, [(-2, -1)]), (0, True, 1, [(0, wall + 2)]),
                        (0, True, 1, [(wall + 1, wall + 2)]), (0, False, 1, [(0, 10 ** 9)]),
                        (0, False, 1, [(0, 0)]), (0, True, 1, [(wall + 1, wall + 1)]), (0, False, 1, [(1, 0)]),
                        (many, False, 1, [(1, 1)])):
                    self.assertEqual(case.says(state, put(paper, at, row)), (False, False), row)
                self.assertEqual(case.says(state, paper), (kept, not kept))

    def test_one_bad_stretch_among_good_ones(self):
        case = Case((5, 1, 1, 1, 0), [(9, 9, 1, 1, False)])
        for bad in ((6, 6), (3, 3), (3, 2), (-1, 2), (4, 7), (6, 7)):
            for parts in ([bad, (0, 6)], [(0, 6), bad], [(0, 3), bad, (3, 6)]):
                for at in range(len(case.kept)):
                    row = (*case.kept[at][:3], parts)
                    paper = case.kept[:at] + [row] + case.kept[at + 1:]
                    self.assertEqual(case.says((5, False, 1), paper), (False, False))
        self.assertEqual(case.says((5, False, 1), case.kept), (True, False))

    def test_the_end_may_be_named_but_not_told_by_a_lost_paper(self):
        case = Case((5, 1, 1, 1, 0), [(9, 9, 3, 3, False)])
        state = (5, False, 1)
        self.assertEqual(case.says(state, case.lost), (False, True))
        self.assertEqual(case.says(state, case.lost + [(1, True, 1, [])]), (False, True))
        self.assertEqual(case.says(state, case.lost + [(1, True, 1, [(0, 1)])]), (False, False))

    def test_empty_papers(self):
        for case in self.small:
            for state in all_states(case.numbers):
                self.assertEqual(case.says(state, []), (False, False))

    def test_a_state_that_is_none_comes_ahead_of_the_paper(self):
        works, course = Works(5, 1, 1, 2, 0), Course([(9, 9, 1, 1, False)])
        good = kept_paper(Plan(works, course))
        for state in (
                (6, False, 1), (-1, False, 1), (5, False, 0), (5, True, 3), (200, True, 1), (5, True, 7)):
            for paper in (good, [], [(9, False, 1, [(0, 1)])], [(0, False, 1, [(3, 3)])], None):
                for judge in (judge_kept, judge_lost):
                    with self.subTest(state=state, paper=paper), self.assertRaises(InvalidState):
                        judge(works, course, state, paper)


if __name__ == "__main__":
    unittest.main()
