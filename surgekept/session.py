"""Sessions that lead a basin hour by hour, their transcripts, and the replay of these."""

from surgekept.errors import InvalidCommand, InvalidCourse, InvalidMove, InvalidState, KeepError
from surgekept.notation import (
    format_gate, format_levels, format_state, hour_lines, parse_book, parse_state, read_gate, read_number)
from surgekept.plan import Plan
from surgekept.searches import greatest_surge, last_closing, wall_needed
from surgekept.works import Course, is_good

_BEGINNING = "session "
_BOOK = "= "
_COMMAND = "> "


class Session:
    """A basin that is led hour by hour."""

    def __init__(self, text, state):
        self.works, self._course = parse_book(text)
        self._state = parse_state(state)
        self.works.check_state(self._state)
        self._number = 0
        self._plan = None
        self._past = []
        book_lines = text.split("\n")[:-1]
        self._lines = [f"{_BEGINNING}{state}", *[f"{_BOOK}{line}" for line in book_lines]]

    def run(self, command):
        """Carry out a command and return the lines of its answer."""
        answer = self._answer(command)
        self._lines.append(f"{_COMMAND}{command}")
        self._lines.extend(answer)
        return answer

    def moment(self):
        """Return the hour, the state and the course as it is known."""
        # A course of its own, as a caller may change the list of its hours.
        return self._number, self._state, Course(self._course.hours)

    def transcript(self):
        """Return all commands and answers, behind what the session began with."""
        return "".join([f"{line}\n" for line in self._lines])

    def _answer(self, command):
        try:
            return self._carry_out(command.split(" "))
        except InvalidCommand:
            return ["error InvalidCommand"]
        except InvalidCourse:
            return ["error InvalidCourse"]
        except InvalidMove:
            return ["error InvalidMove"]
        except InvalidState:
            return ["error InvalidState"]

    def _carry_out(self, words):
        match words:
            case ["state"]:
                return [f"{self._number} {format_state(self._state)}"]
            case ["course"]:
                return hour_lines(self._course)
            case ["act", gate, sea, river]:
                return [self._act(_shut_of(gate), _number_of(sea), _number_of(river))]
            case ["narrow", number, *bounds] if len(bounds) == 4:
                return [self._narrow(_number_of(number), _numbers_of(bounds))]
            case ["back"]:
                return [self._back()]
            case ["plan"]:
                return [self._planned()]
            case ["cost", gate]:
                return [self._cost(_shut_of(gate))]
            case ["beat", gate]:
                return [self._beat(_shut_of(gate))]
            case ["kept", number, gate, since]:
                return [self._kept(_number_of(number), _shut_of(gate), _number_of(since))]
            case ["wall"]:
                return [self._found(wall_needed)]
            case ["surge"]:
                return [self._found(greatest_surge)]
            case ["last"]:
                return [self._found(last_closing)]
            case _:
                raise InvalidCommand("there is no such command")

    def _act(self, shut, sea, river):
        self._check_level()
        number, course = self._number, self._course
        if number == course.count():
            raise InvalidState("there is no hour more")
        since = self.works.moved(self._state, shut)
        if not course.has(number, sea, river):
            raise InvalidMove(f"the sea or the river of hour {number} is out of its bounds")
        level = self.works.next_level(self._state[0], shut, sea, river)
        self._change(number + 1, (level, shut, since), course)
        if level > self.works.wall:
            return f"over {level}"
        return f"good {level}" if is_good(self.works, course, number, shut, level) else f"bad {level}"

    def _narrow(self, number, bounds):
        if number < self._number:
            raise InvalidState(f"hour {number} has gone by")
        # The number comes ahead of the bounds here, but `narrowed` looks at the bounds first.
        ship = self._course.hour(number)[4]
        self._change(self._number, self._state, self._course.narrowed(number, (*bounds, ship)))
        return "ok"

    def _change(self, number, state, course):
        self._past.append((self._number, self._state, self._course))
        self._set(number, state, course)

    def _back(self):
        if not self._past:
            raise InvalidCommand("there is nothing to take back")
        number, state, course = self._past.pop()
        self._set(number, state, course)
        return "ok"

    def _set(self, number, state, course):
        # A plan holds as long as the course does, over all of its hours.
        if course != self._course:
            self._plan = None
        self._number = number
        self._state = state
        self._course = course

    def _planned(self):
        self._check_level()
        if self._number == self._course.count():
            return "end"
        plan = self._known_plan()
        shut = plan.action(self._number, self._state)
        if shut is None:
            return "lost"
        return f"{format_gate(shut)} {plan.worst(self._number, self._state)}"

    def _cost(self, shut):
        self._check_level()
        return _number_or_none(self._known_plan().cost(self._number, self._state, shut))

    def _beat(self, shut):
        self._check_level()
        beaten_by = self._known_plan().beaten_by(self._number, self._state, shut)
        if beaten_by is None:
            return "none"
        sea, river = beaten_by
        return f"{sea} {river}"

    def _kept(self, number, shut, since):
        return format_levels(self._known_plan().levels(number, shut, since))

    def _found(self, search):
        """Return what a search finds for the hours that are still to come."""
        self._check_level()
        coming = Course(self._course.hours[self._number:])
        return _number_or_none(search(self.works, coming, self._state))

    def _check_level(self):
        if self._state[0] > self.works.wall:
            raise InvalidState("the level is above the wall")

    def _known_plan(self):
        """Return the plan for the course as it is known."""
        if self._plan is None:
            self._plan = Plan(self.works, self._course)
        return self._plan


def replay(text):
    """Return the session that a transcript leads, and the first line at which its own differs."""
    lines = text.split("\n")
    session = _begun(lines)
    for line in lines:
        if line.startswith(_COMMAND):
            session.run(line.removeprefix(_COMMAND))
    return session, _first_difference(text, session.transcript())


def _begun(lines):
    """Return the session that begins as the first lines of a transcript tell."""
    if not lines[0].startswith(_BEGINNING):
        raise InvalidCommand("a transcript begins with a session and a state")
    book = ""
    for line in lines[1:]:
        if not line.startswith(_BOOK):
            break
        book += line.removeprefix(_BOOK) + "\n"
    try:
        return Session(book, lines[0].removeprefix(_BEGINNING))
    except KeepError:
        raise InvalidCommand("a transcript begins with what a session can begin with") from None


def _first_difference(text, other):
    """Return the first line, counted from 1, at which two texts differ, or None."""
    if text == other:
        return None
    lines, others = _whole_lines(text), _whole_lines(other)
    both = min(len(lines), len(others))
    for at in range(both):
        if lines[at] != others[at]:
            return at + 1
    return both + 1


def _whole_lines(text):
    """Return the lines of a text, each with the newline that it has."""
    *ended, rest = text.split("\n")
    lines = [f"{line}\n" for line in ended]
    return [*lines, rest] if rest else lines


def _shut_of(word):
    shut = read_gate(word)
    if shut is None:
        raise InvalidCommand("a gate is open or shut")
    return shut


def _number_of(word):
    number = read_number(word)
    if number is None:
        raise InvalidCommand("a number is written with its digits")
    return number


def _numbers_of(words):
    return [_number_of(word) for word in words]


def _number_or_none(number):
    return "none" if number is None else str(number)
