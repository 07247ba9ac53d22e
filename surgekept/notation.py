"""The texts of works, courses, states and levels."""

from surgekept.errors import InvalidLine
from surgekept.papers import stretches
from surgekept.works import Course, Works

MOST_DIGITS = 9

_GATES = {"open": False, "shut": True}


def format_book(works, course):
    """Return the text of works and a course."""
    head = f"works {works.wall} {works.flow} {works.pump} {works.rest} {works.deep}"
    lines = [head, *hour_lines(course)]
    return "".join([f"{line}\n" for line in lines])


def parse_book(text):
    """Return the works and the course that a text writes."""
    if not text.endswith("\n"):
        raise InvalidLine(text.count("\n") + 1)
    lines = text.split("\n")[:-1]
    numbers = _read_numbers("works", lines[0].split(" "), 5)
    if numbers is None:
        raise InvalidLine(1)
    hours = []
    for line_number, line in enumerate(lines[1:], start=2):
        hour = _read_hour(line)
        if hour is None:
            raise InvalidLine(line_number)
        hours.append(hour)
    works = Works(*numbers)
    return works, Course(hours)


def format_state(state):
    """Return the text of a state."""
    level, shut, since = state
    return f"{level} {format_gate(shut)} {since}"


def parse_state(text):
    """Return the state that a text writes, whether works have it or not."""
    words = text.split(" ")
    if len(words) != 3:
        raise InvalidLine(1)
    state = (read_number(words[0]), read_gate(words[1]), read_number(words[2]))
    if None in state:
        raise InvalidLine(1)
    return state


def format_levels(levels):
    """Return the text of levels in ascending order."""
    if not levels:
        return "none"
    return " ".join([_format_stretch(begin, end) for begin, end in stretches(levels)])


def hour_lines(course):
    """Return the lines of the hours of a course."""
    return [_format_hour(hour) for hour in course.hours]


def format_gate(shut):
    """Return the word for a gate."""
    return "shut" if shut else "open"


def read_gate(word):
    """Return True for `shut`, False for `open`, None for another word."""
    return _GATES.get(word)


def read_number(word):
    """Return the number that a word writes, or None if it writes none."""
    # Other digits than 0 to 9 are digits for Python as well.
    if not word.isascii() or not word.isdigit() or len(word) > MOST_DIGITS:
        return None
    if word.startswith("0") and word != "0":
        return None
    return int(word)


def _read_numbers(name, words, many):
    """Return the numbers behind a name, or None if the words are others."""
    numbers = [read_number(word) for word in words[1:]]
    if words[0] != name or len(numbers) != many or None in numbers:
        return None
    return numbers


def _read_hour(line):
    """Return the hour that a line writes, or None."""
    words = line.split(" ")
    ship = words[5:] == ["ship"]
    numbers = _read_numbers("hour", words[:5] if ship else words, 4)
    if numbers is None:
        return None
    return (*numbers, ship)


def _format_hour(hour):
    sea_low, sea_high, river_low, river_high, ship = hour
    bounds = f"hour {sea_low} {sea_high} {river_low} {river_high}"
    return f"{bounds} ship" if ship else bounds


def _format_stretch(begin, end):
    if end == begin + 1:
        return str(begin)
    return f"{begin}-{end - 1}"
