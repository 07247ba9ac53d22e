"""Searches: the least wall, the greatest surge and the last hour for closing."""

from surgekept.plan import Plan
from surgekept.works import MOST_BOUND, MOST_LEVEL, Works, is_good, span


def walled(works, wall):
    """Return the works with another wall."""
    return Works(wall, works.flow, works.pump, works.rest, works.deep)


def wall_needed(works, course, state):
    """Return the least wall with which a state can be kept, or None."""
    works.check_state(state)
    low, high = max(1, works.deep, state[0]), MOST_LEVEL
    if not _is_kept(walled(works, high), course, state):
        return None
    # What a wall keeps, a higher one keeps too: so the least one lies between two halves.
    while low < high:
        middle = (low + high) // 2
        if _is_kept(walled(works, middle), course, state):
            high = middle
        else:
            low = middle + 1
    return low


def greatest_surge(works, course, state):
    """Return by how much all greatest seas can be raised so that a state can be kept, or None."""
    if not _is_kept(works, course, state):
        return None
    low, high = 0, MOST_BOUND - max([hour[1] for hour in course.hours])
    # What is kept against a surge is kept against a lesser one too.
    while low < high:
        middle = (low + high + 1) // 2
        if _is_kept(works, course.raised(middle), state):
            low = middle
        else:
            high = middle - 1
    return low


def last_closing(works, course, state):
    """Return ahead of which hour the gate can be open throughout and a state be kept, or None."""
    plan = Plan(works, course)
    if not plan.is_kept(0, state):
        return None
    if state[1] and not works.may_move(state):
        return 0
    # Behind an open gate the levels that may come have no gap, and a higher level never
    # leads to a lower one: so the ends of what came before lead to the ends of what comes.
    least = greatest = state[0]
    for number in range(course.count()):
        # Its level is not looked at, it only tells how the gate stands.
        state = (state[0], False, works.moved(state, False))
        least, _ = span(works, course, number, least, False)
        _, greatest = span(works, course, number, greatest, False)
        if not _all_hold(plan, number, state[2], least, greatest):
            return number
    return course.count()


def _is_kept(works, course, state):
    return Plan(works, course).is_kept(0, state)


def _all_hold(plan, number, since, least, greatest):
    """Tell if an open hour that ends within these levels is good and what is behind it can be kept."""
    for level in range(least, greatest + 1):
        if not is_good(plan.works, plan.course, number, False, level):
            return False
        if not plan.is_kept(number + 1, (level, False, since)):
            return False
    return True
