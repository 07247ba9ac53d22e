"""Plans: from which states a basin can be kept, how, and what beats the keeper from the others."""

from surgekept.errors import InvalidState
from surgekept.works import allowed_actions, gates, good_spans, is_good, is_whole, span

# Stands for None within the tables. It is above every number of shut hours: so `max`
# shows that something may come that is lost, and `min` prefers what can be kept.
_LOST = 1000


class Plan:
    """What a keeper can reach, worked out backwards from behind the last hour."""

    def __init__(self, works, course):
        self.works = works
        self.course = course
        self._costs = []
        self._worst = [_end_worst(works)]
        for number in range(course.count() - 1, -1, -1):
            costs = _hour_costs(works, course, number, self._worst[-1])
            self._costs.append(costs)
            self._worst.append(_hour_worst(works, costs))
        self._costs.reverse()
        self._worst.reverse()

    def worst(self, number, state):
        """Return the shut hours in the worst case, or None if the state cannot be kept."""
        self._check(number, state)
        level, shut, since = state
        return _told(self._worst[number][(shut, since)][level])

    def is_kept(self, number, state):
        """Tell if a state can be kept from an hour on."""
        return self.worst(number, state) is not None

    def levels(self, number, shut, since):
        """Return the levels that can be kept from an hour on with the gate standing so."""
        self._check(number, (0, shut, since))
        worst = self._worst[number][(shut, since)]
        return [level for level, shut_hours in enumerate(worst) if shut_hours != _LOST]

    def cost(self, number, state, shut):
        """Return the shut hours in the worst case if the gate is so in an hour, or None."""
        return _told(self._cost(number, state, shut))

    def action(self, number, state):
        """Return True to have the gate shut, False to have it open, None if all is lost."""
        if_open = self._cost(number, state, False)
        if_shut = self._cost(number, state, True)
        if min(if_open, if_shut) == _LOST:
            return None
        return if_shut < if_open

    def beaten_by(self, number, state, shut):
        """Return the sea and the river that beat an action, or None if it has a cost."""
        if self.cost(number, state, shut) is not None:
            return None
        since = self.works.moved(state, shut)
        _, beaten = span(self.works, self.course, number, state[0], shut)
        while self._holds(number, shut, since, beaten):
            beaten -= 1
        return _least_bringing(self.works, self.course.hour(number), state[0], shut, beaten)

    def _check(self, number, state):
        if not is_whole(number, 0, self.course.count()):
            raise InvalidState(f"the plan tells of the hours 0 to {self.course.count()}")
        self.works.check_state(state)

    def _cost(self, number, state, shut):
        self.course.hour(number)
        allowed = allowed_actions(self.works, state)
        if shut not in allowed:
            return _LOST
        return self._costs[number][(shut, allowed[shut])][state[0]]

    def _holds(self, number, shut, since, level):
        """Tell if an hour that ends so is good and the state behind it can be kept."""
        if not is_good(self.works, self.course, number, shut, level):
            return False
        return self._worst[number + 1][(shut, since)][level] != _LOST


def _told(shut_hours):
    return None if shut_hours == _LOST else shut_hours


def _end_worst(works):
    return {gate: [0] * (works.wall + 1) for gate in gates(works)}


def _hour_costs(works, course, number, worst_behind):
    """Return the costs of an hour by the level, for each gate behind the hour."""
    spans = {shut: good_spans(works, course, number, shut) for shut in (False, True)}
    return {
        gate: [_worst_case(good_span, gate[0], worst_behind[gate]) for good_span in spans[gate[0]]]
        for gate in gates(works)
    }


def _hour_worst(works, costs):
    """Return the worst numbers of an hour by the level, for each gate ahead of the hour."""
    worst = {}
    for shut, since in gates(works):
        # The rest alone tells which actions are allowed, so any level will do.
        allowed = allowed_actions(works, (0, shut, since))
        by_action = [costs[(action, allowed[action])] for action in allowed]
        worst[(shut, since)] = [min(row) for row in zip(*by_action)]
    return worst


def _worst_case(good_span, shut, worst_behind):
    """Return the cost of an action behind which any level of a span may come."""
    if good_span is None:
        return _LOST
    least, greatest = good_span
    shut_hours = max(worst_behind[least:greatest + 1])
    if shut_hours == _LOST:
        return _LOST
    return shut_hours + 1 if shut else shut_hours


def _least_bringing(works, hour, level, shut, wanted):
    """Return the least sea, and with it the least river, that bring a level of the span."""
    sea, river, river_high = hour[0], hour[2], hour[3]
    # One more of the sea, or of the river, brings the level up by one at most: the first
    # sea whose greatest river reaches the level has a river that brings just this one.
    while works.next_level(level, shut, sea, river_high) < wanted:
        sea += 1
    while works.next_level(level, shut, sea, river) < wanted:
        river += 1
    return sea, river
