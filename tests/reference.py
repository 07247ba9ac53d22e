"""What the document asks for, worked out by brute force over every sea and every river.

Nothing here is taken from the program: the tests compare it with this table.
"""

import random


def level_behind(numbers, level, shut, sea, river):
    """Point 2.2, for the works (wall, flow, pump, rest, deep)."""
    _, flow, pump, _, _ = numbers
    if shut:
        return 0 if level + river < pump else level + river - pump
    if sea >= level:
        return (sea if sea - level <= flow else level + flow) + river
    return (sea if level - sea <= flow else level - flow) + river


def is_good_hour(numbers, hour, shut, level):
    """Point 2.3."""
    wall, _, _, _, deep = numbers
    if hour[4] and (shut or level < deep):
        return False
    return level <= wall


def since_behind(numbers, state, shut):
    """Point 2.1; None if the gate may not be so."""
    rest = numbers[3]
    _, was_shut, since = state
    if shut is was_shut:
        return since if since == rest else since + 1
    return 1 if since == rest else None


def all_states(numbers):
    wall, _, _, rest, _ = numbers
    return [
        (level, shut, since)
        for level in range(wall + 1) for shut in (False, True) for since in range(1, rest + 1)
    ]


def all_weather(hour):
    """Every sea and river of an hour, the least sea first, and of each sea the least river."""
    sea_low, sea_high, river_low, river_high, _ = hour
    return [
        (sea, river)
        for sea in range(sea_low, sea_high + 1) for river in range(river_low, river_high + 1)
    ]


class Table:
    """Points 3.1 to 3.4 for small works and a short course."""

    def __init__(self, numbers, hours):
        self.numbers = numbers
        self.hours = hours
        self.known = {}
        self.met = {}

    def outcomes(self, number, level, shut):
        """The levels behind an hour, each with the first sea and river that bring it."""
        key = (number, level, shut)
        if key not in self.met:
            levels = {}
            for sea, river in all_weather(self.hours[number]):
                behind = level_behind(self.numbers, level, shut, sea, river)
                levels.setdefault(behind, (sea, river))
            self.met[key] = levels
        return self.met[key]

    def holds(self, number, level, shut, since):
        if not is_good_hour(self.numbers, self.hours[number], shut, level):
            return False
        return self.worst(number + 1, (level, shut, since)) is not None

    def cost(self, number, state, shut):
        since = since_behind(self.numbers, state, shut)
        if since is None:
            return None
        levels = self.outcomes(number, state[0], shut)
        if not all(self.holds(number, level, shut, since) for level in levels):
            return None
        return int(shut) + max(self.worst(number + 1, (level, shut, since)) for level in levels)

    def worst(self, number, state):
        if number == len(self.hours):
            return 0
        if (number, state) not in self.known:
            costs = [self.cost(number, state, shut) for shut in (False, True)]
            kept = [cost for cost in costs if cost is not None]
            self.known[(number, state)] = min(kept) if kept else None
        return self.known[(number, state)]

    def action(self, number, state):
        if_open = self.cost(number, state, False)
        if_shut = self.cost(number, state, True)
        if if_open is None:
            return None if if_shut is None else True
        return if_shut is not None and if_shut < if_open

    def beaten_by(self, number, state, shut):
        """For an action that the rest allows."""
        since = since_behind(self.numbers, state, shut)
        levels = self.outcomes(number, state[0], shut)
        lost = [level for level in levels if not self.holds(number, level, shut, since)]
        return levels[max(lost)] if lost else None


def _two(chance, most):
    one, other = chance.randint(0, most), chance.randint(0, most)
    return min(one, other), max(one, other)


def small_cases(seed, many):
    """Small works with short courses, as pairs of five numbers and a list of hours."""
    chance = random.Random(seed)
    cases = []
    for _ in range(many):
        wall = chance.randint(1, 7)
        numbers = (
            wall, chance.randint(1, 4), chance.randint(0, 4),
            chance.randint(1, 4), chance.randint(0, min(wall, 3)),
        )
        hours = []
        for _ in range(chance.randint(1, 5)):
            sea = _two(chance, chance.randint(1, 10))
            river_low = chance.randint(0, 1)
            river_high = river_low + chance.choice((0, 0, 1, 1, 2, 4))
            hours.append((*sea, river_low, river_high, chance.random() < 0.2))
        cases.append((numbers, hours))
    return cases


def large_cases(seed, many):
    """Works up to the greatest walls with courses up to 72 hours: a tide, a surge and a river."""
    chance = random.Random(seed)
    cases = []
    for at in range(many):
        wall = 200 if at == 0 else chance.randint(40, 200)
        numbers = (
            wall, chance.randint(5, 60), chance.randint(0, 20),
            chance.randint(1, 6), chance.randint(0, wall // 8),
        )
        hours = []
        for number in range(72 if at < 2 else chance.randint(20, 72)):
            tide = wall // 3 + abs(number % 12 - 6) * wall // 12
            surge = chance.choice((0, 0, 5, wall // 3))
            low = min(400, tide + surge)
            high = min(400, low + chance.randint(0, wall // 10))
            river = chance.randint(0, 4)
            ship = tide < wall // 2 and chance.random() < 0.1
            hours.append((low, high, river, river + chance.randint(0, 4), ship))
        cases.append((numbers, hours))
    return cases
