"""What the document asks for, worked out by brute force over every sea and every river.

Nothing here is taken from the program: the tests compare it with this table.
"""

import random
import re


def level_behind(numbers, level, shut, sea, river):
    """Point 2.2, for the works (wall, flow, pump, rest, deep)."""
    _, flow, pump, _, _ = numbers
    if shut:
        return 0 if level + river < pump else level + river - pump
    if sea >= level:
        return (sea if sea - level <= flow else level + flow) + river
    return (sea if level - sea <= flow else level - flow) + river


def is_good_hour(numbers, hour, shut, level):
    """Point 2.3."""
    wall, _, _, _, deep = numbers
    if hour[4] and (shut or level < deep):
        return False
    return level <= wall


def since_behind(numbers, state, shut):
    """Point 2.1; None if the gate may not be so."""
    rest = numbers[3]
    _, was_shut, since = state
    if shut is was_shut:
        return since if since == rest else since + 1
    return 1 if since == rest else None


def all_states(numbers):
    wall, _, _, rest, _ = numbers
    return [
        (level, shut, since)
        for level in range(wall + 1) for shut in (False, True) for since in range(1, rest + 1)
    ]


def all_weather(hour):
    """Every sea and river of an hour, the least sea first, and of each sea the least river."""
    sea_low, sea_high, river_low, river_high, _ = hour
    return [
        (sea, river)
        for sea in range(sea_low, sea_high + 1) for river in range(river_low, river_high + 1)
    ]


def levels_behind(numbers, hour, level, shut):
    """Every level that may come, by point 2.4 of the ends, for hours with much weather."""
    sea_low, sea_high, river_low, river_high, _ = hour
    least = level_behind(numbers, level, shut, sea_low, river_low)
    return range(least, level_behind(numbers, level, shut, sea_high, river_high) + 1)


class Table:
    """Points 3.1 to 3.4 for small works and a short course."""

    def __init__(self, numbers, hours):
        self.numbers = numbers
        self.hours = hours
        self.known = {}
        self.met = {}

    def outcomes(self, number, level, shut):
        """The levels behind an hour, each with the first sea and river that bring it."""
        key = (number, level, shut)
        if key not in self.met:
            levels = {}
            for sea, river in all_weather(self.hours[number]):
                behind = level_behind(self.numbers, level, shut, sea, river)
                levels.setdefault(behind, (sea, river))
            self.met[key] = levels
        return self.met[key]

    def holds(self, number, level, shut, since):
        if not is_good_hour(self.numbers, self.hours[number], shut, level):
            return False
        return self.worst(number + 1, (level, shut, since)) is not None

    def cost(self, number, state, shut):
        since = since_behind(self.numbers, state, shut)
        if since is None:
            return None
        levels = self.outcomes(number, state[0], shut)
        if not all(self.holds(number, level, shut, since) for level in levels):
            return None
        return int(shut) + max(self.worst(number + 1, (level, shut, since)) for level in levels)

    def worst(self, number, state):
        if number == len(self.hours):
            return 0
        if (number, state) not in self.known:
            costs = [self.cost(number, state, shut) for shut in (False, True)]
            kept = [cost for cost in costs if cost is not None]
            self.known[(number, state)] = min(kept) if kept else None
        return self.known[(number, state)]

    def action(self, number, state):
        if_open = self.cost(number, state, False)
        if_shut = self.cost(number, state, True)
        if if_open is None:
            return None if if_shut is None else True
        return if_shut is not None and if_shut < if_open

    def beaten_by(self, number, state, shut):
        """For an action that the rest allows."""
        since = since_behind(self.numbers, state, shut)
        levels = self.outcomes(number, state[0], shut)
        lost = [level for level in levels if not self.holds(number, level, shut, since)]
        return levels[max(lost)] if lost else None


class WideTable(Table):
    """The same for hours with much weather, with the ends of what may come instead of all of it."""

    def outcomes(self, number, level, shut):
        return levels_behind(self.numbers, self.hours[number], level, shut)


def runs(levels):
    """The longest runs without a gap, as pairs of the first and the last level."""
    found = []
    for level in levels:
        if level - 1 not in levels:
            found.append((level, level))
        else:
            found[-1] = (found[-1][0], level)
    return found


class PaperJudge:
    """Points 4.1 to 4.3, by the outcomes of a table."""

    def __init__(self, table):
        self.table = table
        self.numbers = table.numbers
        self.hours = table.hours

    def told(self, paper):
        """The states that a paper tells, or None if it tells what there is not."""
        wall, _, _, rest, _ = self.numbers
        told = set()
        for number, shut, since, parts in paper:
            if not 0 <= number <= len(self.hours) or not 1 <= since <= rest:
                return None
            for begin, end in parts:
                if not 0 <= begin < end <= wall + 1:
                    return None
                told.update((number, (level, shut, since)) for level in range(begin, end))
        return told

    def ways(self, told, number, state):
        """For each allowed action, for each level that may come: is the hour bad, and is it told?"""
        ways = []
        for shut in (False, True):
            since = since_behind(self.numbers, state, shut)
            if since is not None:
                ways.append([
                    (not is_good_hour(self.numbers, self.hours[number], shut, level),
                     (number + 1, (level, shut, since)) in told)
                    for level in self.table.outcomes(number, state[0], shut)])
        return ways

    def kept(self, state, paper):
        told = self.told(paper)
        if told is None or (0, state) not in told:
            return False
        return all(
            any(all(not bad and is_told for bad, is_told in way) for way in self.ways(told, *row))
            for row in told if row[0] < len(self.hours))

    def lost(self, state, paper):
        told = self.told(paper)
        if told is None or (0, state) not in told or any(number == len(self.hours) for number, _ in told):
            return False
        return all(
            all(any(bad or is_told for bad, is_told in way) for way in self.ways(told, *row))
            for row in told)


def is_kept(numbers, hours, state):
    return Table(numbers, hours).worst(0, state) is not None


def least_wall(numbers, hours, state):
    """Point 5.1, by a look at every wall."""
    _, *others, deep = numbers
    walls = range(max(1, deep, state[0]), 201)
    return next((wall for wall in walls if is_kept((wall, *others, deep), hours, state)), None)


def raised(hours, surge):
    return [(sea_low, sea_high + surge, *others) for sea_low, sea_high, *others in hours]


def most_surge(numbers, hours, state):
    """Point 5.2, by a look at every surge if the greatest one is not let by."""
    if not is_kept(numbers, hours, state):
        return None
    most = 400 - max(hour[1] for hour in hours)
    if is_kept(numbers, raised(hours, most), state):
        return most
    return next(surge for surge in range(most) if not is_kept(numbers, raised(hours, surge + 1), state))


def latest_closing(numbers, hours, state):
    """Point 5.3, by a look at every hour."""
    table = Table(numbers, hours)

    def holds(number, state, first):
        """Can a keeper do it who has the gate open in all hours before `first`?"""
        if number == first:
            return table.worst(number, state) is not None
        since = since_behind(numbers, state, False)
        if since is None:
            return False
        return all(
            is_good_hour(numbers, hours[number], False, level) and holds(number + 1, (level, False, since), first)
            for level in table.outcomes(number, state[0], False))

    return next((first for first in range(len(hours), -1, -1) if holds(0, state, first)), None)


def word(shut):
    return {False: "open", True: "shut"}[shut]


def state_text(state):
    return f"{state[0]} {word(state[1])} {state[2]}"


def hour_text(hour):
    return " ".join(["hour", *map(str, hour[:4]), *(["ship"] if hour[4] else [])])


def book_text(numbers, hours):
    lines = [" ".join(["works", *map(str, numbers)]), *map(hour_text, hours)]
    return "".join(line + "\n" for line in lines)


class Refused(Exception):
    """The name of the error that answers a command."""


class Model:
    """Points 7.1 to 7.4 for small works."""

    GATE = "(open|shut)"
    NUMBER = "(0|[1-9][0-9]{0,8})"
    FORMS = {
        "state": [], "course": [], "act": [GATE, NUMBER, NUMBER], "narrow": [NUMBER] * 5, "back": [],
        "plan": [], "cost": [GATE], "beat": [GATE], "kept": [NUMBER, GATE, NUMBER],
        "wall": [], "surge": [], "last": [],
    }
    NOT_ABOVE = ("act", "plan", "cost", "beat", "wall", "surge", "last")

    def __init__(self, numbers, hours, state):
        self.numbers = numbers
        self.now = (0, state, tuple(hours))
        self.past = []

    def answer(self, command):
        try:
            return self.carried_out(command)
        except Refused as refused:
            return [f"error {refused}"]

    def carried_out(self, command):
        name = command.split(" ")[0]
        match = name in self.FORMS and re.fullmatch(" ".join([name, *self.FORMS[name]]), command)
        if not match:
            raise Refused("InvalidCommand")
        if name in self.NOT_ABOVE and self.now[1][0] > self.numbers[0]:
            raise Refused("InvalidState")
        values = [{"open": False, "shut": True}.get(value, value) for value in match.groups()]
        values = [int(value) if isinstance(value, str) else value for value in values]
        answer = getattr(self, "run_" + name)(*self.now, *values)
        return answer if isinstance(answer, list) else [str(answer).lower()]

    def change(self, *now):
        self.past.append(self.now)
        self.now = now

    def table(self):
        return Table(self.numbers, self.now[2])

    def run_state(self, number, state, hours):
        return f"{number} {state_text(state)}"

    def run_course(self, number, state, hours):
        return list(map(hour_text, hours))

    def run_act(self, number, state, hours, shut, sea, river):
        if number == len(hours):
            raise Refused("InvalidState")
        since = since_behind(self.numbers, state, shut)
        if since is None or (sea, river) not in all_weather(hours[number]):
            raise Refused("InvalidMove")
        level = level_behind(self.numbers, state[0], shut, sea, river)
        self.change(number + 1, (level, shut, since), hours)
        if level > self.numbers[0]:
            return f"over {level}"
        return f"good {level}" if is_good_hour(self.numbers, hours[number], shut, level) else f"bad {level}"

    def run_narrow(self, number, state, hours, which, *bounds):
        if which not in range(number, len(hours)):
            raise Refused("InvalidState")
        old = hours[which]
        if not (old[0] <= bounds[0] <= bounds[1] <= old[1] and old[2] <= bounds[2] <= bounds[3] <= old[3]):
            raise Refused("InvalidCourse")
        self.change(number, state, (*hours[:which], (*bounds, old[4]), *hours[which + 1:]))
        return "ok"

    def run_back(self, number, state, hours):
        if not self.past:
            raise Refused("InvalidCommand")
        self.now = self.past.pop()
        return "ok"

    def run_plan(self, number, state, hours):
        if number == len(hours):
            return "end"
        table = self.table()
        shut = table.action(number, state)
        return "lost" if shut is None else f"{word(shut)} {table.worst(number, state)}"

    def run_cost(self, number, state, hours, shut):
        if number == len(hours):
            raise Refused("InvalidState")
        return self.table().cost(number, state, shut)

    def run_beat(self, number, state, hours, shut):
        if number == len(hours):
            raise Refused("InvalidState")
        if since_behind(self.numbers, state, shut) is None:
            raise Refused("InvalidMove")
        weather = self.table().beaten_by(number, state, shut)
        return weather and f"{weather[0]} {weather[1]}"

    def run_kept(self, number, state, hours, which, shut, since):
        if which > len(hours) or since not in range(1, self.numbers[3] + 1):
            raise Refused("InvalidState")
        table, levels = self.table(), range(self.numbers[0] + 1)
        kept = [level for level in levels if table.worst(which, (level, shut, since)) is not None]
        parts = [str(low) if low == high else f"{low}-{high}" for low, high in runs(kept)]
        return " ".join(parts or ["none"])

    def searched(self, search, number, state, hours):
        if number == len(hours):
            raise Refused("InvalidCourse")
        return search(self.numbers, list(hours[number:]), state)

    def run_wall(self, *now):
        return self.searched(least_wall, *now)

    def run_surge(self, *now):
        return self.searched(most_surge, *now)

    def run_last(self, *now):
        return self.searched(latest_closing, *now)


def _two(chance, most):
    one, other = chance.randint(0, most), chance.randint(0, most)
    return min(one, other), max(one, other)


def small_cases(seed, many):
    """Small works with short courses, as pairs of five numbers and a list of hours."""
    chance = random.Random(seed)
    cases = []
    for _ in range(many):
        wall = chance.randint(1, 7)
        numbers = (
            wall, chance.randint(1, 4), chance.randint(0, 4),
            chance.randint(1, 4), chance.randint(0, min(wall, 3)),
        )
        hours = []
        for _ in range(chance.randint(1, 5)):
            sea = _two(chance, chance.randint(1, 10))
            river_low = chance.randint(0, 1)
            river_high = river_low + chance.choice((0, 0, 1, 1, 2, 4))
            hours.append((*sea, river_low, river_high, chance.random() < 0.2))
        cases.append((numbers, hours))
    return cases


def large_cases(seed, many):
    """Works up to the greatest walls with courses up to 72 hours: a tide, a surge and a river."""
    chance = random.Random(seed)
    cases = []
    for at in range(many):
        wall = 200 if at == 0 else chance.randint(40, 200)
        numbers = (
            wall, chance.randint(5, 60), chance.randint(0, 20),
            chance.randint(1, 6), chance.randint(0, wall // 8),
        )
        hours = []
        for number in range(72 if at < 2 else chance.randint(20, 72)):
            tide = wall // 3 + abs(number % 12 - 6) * wall // 12
            surge = chance.choice((0, 0, 5, wall // 3))
            low = min(400, tide + surge)
            high = min(400, low + chance.randint(0, wall // 10))
            river = chance.randint(0, 4)
            ship = tide < wall // 2 and chance.random() < 0.1
            hours.append((low, high, river, river + chance.randint(0, 4), ship))
        cases.append((numbers, hours))
    return cases
