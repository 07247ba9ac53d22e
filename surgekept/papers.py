"""Papers that show that a state can be kept or that it cannot, and the judges of both."""

from surgekept.works import allowed_actions, gates, good_spans, is_whole


def stretches(levels):
    """Return the stretches, as long as they can be, of levels in ascending order."""
    found = []
    for level in levels:
        if found and found[-1][1] == level:
            found[-1] = (found[-1][0], level + 1)
        else:
            found.append((level, level + 1))
    return found


def kept_paper(plan):
    """Return the rows of all states that can be kept, for the hour behind the last too."""
    rows = []
    for number in range(plan.course.count() + 1):
        for shut, since in gates(plan.works):
            rows.append((number, shut, since, stretches(plan.levels(number, shut, since))))
    return _with_levels(rows)


def lost_paper(plan):
    """Return the rows of all states that cannot be kept."""
    rows = []
    # Behind the last hour every state can be kept.
    for number in range(plan.course.count()):
        for shut, since in gates(plan.works):
            rows.append((number, shut, since, stretches(_lost_levels(plan, number, shut, since))))
    return _with_levels(rows)


def judge_kept(works, course, state, paper):
    """Tell if a paper shows that a state can be kept from the first hour on."""
    works.check_state(state)
    told = _told_levels(works, course, paper)
    if told is None or not _is_told(told, state):
        return False
    for number in range(course.count()):
        for outcomes in _told_outcomes(works, course, told, number):
            if not any([_is_always_told(good_span, behind) for good_span, behind in outcomes]):
                return False
    return True


def judge_lost(works, course, state, paper):
    """Tell if a paper shows that a state cannot be kept from the first hour on."""
    works.check_state(state)
    told = _told_levels(works, course, paper)
    if told is None or not _is_told(told, state) or _tells_the_end(works, course, told):
        return False
    for number in range(course.count()):
        for outcomes in _told_outcomes(works, course, told, number):
            if not all([_may_be_bad_or_told(good_span, behind) for good_span, behind in outcomes]):
                return False
    return True


def _with_levels(rows):
    return [row for row in rows if row[3]]


def _lost_levels(plan, number, shut, since):
    levels = range(plan.works.wall + 1)
    return [level for level in levels if not plan.is_kept(number, (level, shut, since))]


def _told_levels(works, course, paper):
    """Return by the hour and the gate a flag for each level, or None if a row tells what there is not."""
    told = {
        (number, shut, since): [False] * (works.wall + 1)
        for number in range(course.count() + 1) for shut, since in gates(works)
    }
    for number, shut, since, parts in paper:
        if not is_whole(number, 0, course.count()) or not is_whole(since, 1, works.rest):
            return None
        for begin, end in parts:
            if not is_whole(begin, 0, works.wall) or not is_whole(end, begin + 1, works.wall + 1):
                return None
            told[(number, shut, since)][begin:end] = [True] * (end - begin)
    return told


def _is_told(told, state):
    """Tell if a state is told for hour 0."""
    level, shut, since = state
    return told[(0, shut, since)][level]


def _tells_the_end(works, course, told):
    """Tell if any state is told for the hour behind the last."""
    return any([True in told[(course.count(), shut, since)] for shut, since in gates(works)])


def _told_outcomes(works, course, told, number):
    """Return for each state that is told for an hour what its allowed actions lead to.

    For an action this is the pair of the levels that may come, as `good_spans` gives them,
    and of the flags of the levels that are told behind it.
    """
    spans = {shut: good_spans(works, course, number, shut) for shut in (False, True)}
    found = []
    for shut, since in gates(works):
        # The rest alone tells which actions are allowed, so any level will do.
        allowed = allowed_actions(works, (0, shut, since))
        for level, is_told in enumerate(told[(number, shut, since)]):
            if is_told:
                found.append([
                    (spans[action][level], told[(number + 1, action, allowed[action])]) for action in allowed
                ])
    return found


def _is_always_told(good_span, behind):
    """Tell if an hour is good, whatever comes, and all that may come is told behind it."""
    if good_span is None:
        return False
    least, greatest = good_span
    return all(behind[least:greatest + 1])


def _may_be_bad_or_told(good_span, behind):
    """Tell if something may come that makes an hour bad or is told behind it."""
    if good_span is None:
        return True
    least, greatest = good_span
    return any(behind[least:greatest + 1])
