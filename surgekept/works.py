"""The works, the courses of their hours, and what an hour does to the level."""

from surgekept.errors import InvalidCourse, InvalidMove, InvalidState, InvalidWorks

MOST_LEVEL = 200
MOST_FLOW = 400
MOST_PUMP = 400
MOST_REST = 6
MOST_HOURS = 72
MOST_BOUND = 400


def is_whole(value, least, most):
    """Tell if a value is an integer from `least` to `most`."""
    # Python counts True and False among the integers, the document does not.
    return isinstance(value, int) and not isinstance(value, bool) and least <= value <= most


class Works:
    """The wall, the gate and the pumps of a basin."""

    def __init__(self, wall, flow, pump, rest, deep):
        _check_works_number("wall", wall, 1, MOST_LEVEL)
        _check_works_number("flow", flow, 1, MOST_FLOW)
        _check_works_number("pump", pump, 0, MOST_PUMP)
        _check_works_number("rest", rest, 1, MOST_REST)
        _check_works_number("deep", deep, 0, wall)
        self.wall = wall
        self.flow = flow
        self.pump = pump
        self.rest = rest
        self.deep = deep

    def check_state(self, state):
        """Raise InvalidState if a state is none of these works."""
        if not isinstance(state, tuple) or len(state) != 3:
            raise InvalidState("a state is a tuple of a level, a flag and a number of hours")
        level, shut, since = state
        if not is_whole(level, 0, self.wall):
            raise InvalidState(f"the level of a state is from 0 to {self.wall}")
        if not isinstance(shut, bool):
            raise InvalidState("the gate of a state is True or False")
        if not is_whole(since, 1, self.rest):
            raise InvalidState(f"the gate of a state stands for 1 to {self.rest} hours")

    def may_move(self, state):
        """Tell if the gate has stood long enough to be moved."""
        self.check_state(state)
        return state[2] == self.rest

    def moved(self, state, shut):
        """Return for how many hours the gate has stood behind an hour with it so."""
        self.check_state(state)
        _, was_shut, since = state
        if shut == was_shut:
            return min(since + 1, self.rest)
        if not self.may_move(state):
            raise InvalidMove(f"the gate has stood for {since} of {self.rest} hours")
        return 1

    def next_level(self, level, shut, sea, river):
        """Return the level behind an hour."""
        if shut:
            return max(0, level + river - self.pump)
        return level + river + max(-self.flow, min(self.flow, sea - level))


class Course:
    """What is known of the hours that come."""

    def __init__(self, hours):
        if not isinstance(hours, list) or not is_whole(len(hours), 1, MOST_HOURS):
            raise InvalidCourse(f"a course is a list of 1 to {MOST_HOURS} hours")
        for hour in hours:
            _check_hour(hour)
        self.hours = list(hours)

    def count(self):
        """Return the number of hours."""
        return len(self.hours)

    def hour(self, number):
        """Return an hour."""
        if not is_whole(number, 0, self.count() - 1):
            raise InvalidState(f"the course has the hours 0 to {self.count() - 1}")
        return self.hours[number]

    def has(self, number, sea, river):
        """Tell if a sea and a river are within the bounds of an hour."""
        sea_low, sea_high, river_low, river_high, _ = self.hour(number)
        return sea_low <= sea <= sea_high and river_low <= river <= river_high

    def narrowed(self, number, hour):
        """Return the course with an hour of narrower bounds."""
        _check_hour(hour)
        if not _is_within(hour, self.hour(number)):
            raise InvalidCourse(f"hour {number} has narrower bounds or another ship")
        hours = list(self.hours)
        hours[number] = hour
        return Course(hours)

    def raised(self, surge):
        """Return the course with all greatest seas higher."""
        return Course([
            (sea_low, sea_high + surge, river_low, river_high, ship)
            for sea_low, sea_high, river_low, river_high, ship in self.hours
        ])


def span(works, course, number, level, shut):
    """Return the least and the greatest level that may come behind an hour."""
    sea_low, sea_high, river_low, river_high, _ = course.hour(number)
    least = works.next_level(level, shut, sea_low, river_low)
    greatest = works.next_level(level, shut, sea_high, river_high)
    return least, greatest


def is_good(works, course, number, shut, level):
    """Tell if an hour that ends at a level is good."""
    ship = course.hour(number)[4]
    if level > works.wall:
        return False
    return not ship or (not shut and level >= works.deep)


def gates(works):
    """Return the ways in which the gate may stand, as pairs (shut, since)."""
    return [(shut, since) for shut in (False, True) for since in range(1, works.rest + 1)]


def allowed_actions(works, state):
    """Return the actions that the rest allows, each with `since` behind the hour."""
    may_move = works.may_move(state)
    return {shut: works.moved(state, shut) for shut in (False, True) if may_move or shut == state[1]}


def good_spans(works, course, number, shut):
    """Return by the level what may come behind an hour, or None where it may be bad."""
    spans = []
    for level in range(works.wall + 1):
        least, greatest = span(works, course, number, level, shut)
        # What is good has no gap: between two good levels all are.
        ends = [is_good(works, course, number, shut, end) for end in (least, greatest)]
        spans.append((least, greatest) if all(ends) else None)
    return spans


def _check_works_number(name, value, least, most):
    if not is_whole(value, least, most):
        raise InvalidWorks(f"the {name} of works is a whole number from {least} to {most}")


def _check_hour(hour):
    if not isinstance(hour, tuple) or len(hour) != 5:
        raise InvalidCourse("an hour is a tuple of four numbers and a flag")
    sea_low, sea_high, river_low, river_high, ship = hour
    _check_bounds(sea_low, sea_high)
    _check_bounds(river_low, river_high)
    if not isinstance(ship, bool):
        raise InvalidCourse("the ship of an hour is True or False")


def _check_bounds(low, high):
    # The high comes first: it must be a number before the low is compared with it.
    if not is_whole(high, 0, MOST_BOUND) or not is_whole(low, 0, high):
        raise InvalidCourse(f"the bounds of an hour are two numbers from 0 to {MOST_BOUND} in order")


def _is_within(hour, wider):
    """Tell if no bound of an hour is wider than that of another one, and the ship is the same."""
    sea_low, sea_high, river_low, river_high, ship = wider
    return (
        sea_low <= hour[0] and hour[1] <= sea_high
        and river_low <= hour[2] and hour[3] <= river_high
        and hour[4] == ship
    )
