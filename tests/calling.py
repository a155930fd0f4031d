"""How the tests write calls, read answers and look into an exchange."""

import unittest

from townexchange.exchange import answer_request, answers
from townexchange.hall import Town
from townexchange.reading import read_requests

IDLE, DIALS, TALKS, WAITS, TONE, RINGS = range(6)
TOP = 9223372036854775807


def row(digits):
    numbers = [int(sign) for sign in digits] if isinstance(digits, str) else list(digits)
    return [len(numbers)] + numbers


def begin(n, r, m):
    return [1, n, r, m]


def number(line, digits):
    return [2, line] + row(digits)


def clear(line):
    return [3, line]


def group(digits, lines):
    return [4] + row(digits) + row(lines)


def price(cents, digits):
    return [5, cents] + row(digits)


def hand(line, when, digits):
    return [6, line, when] + row(digits)


def wait(time):
    return [7, time]


def lift(line):
    return [8, line]


def digit(line, sign):
    return [9, line, sign]


def dial(line, digits):
    return [lift(line)] + [digit(line, int(sign)) for sign in digits]


def hang(line):
    return [10, line]


def tick(time):
    return [11, time]


def look(line):
    return [12, line]


def middle(switch):
    return [13, switch]


def owes(line):
    return [14, line]


def record(place):
    return [15, place]


def owner(digits):
    return [16] + row(digits)


def counts():
    return [17]


def town(n, r, m):
    """Each line has its own number: two digits, the line."""
    return [begin(n, r, m)] + [number(line, f"{line:02d}") for line in range(n * r)]


ONE_OF_EACH = [
    number(0, "1"), clear(0), group("1", [0]), price(1, "1"), hand(0, 0, "1"), wait(1), lift(0), digit(0, 1), hang(0),
    tick(5), look(0), middle(0), owes(0), record(0), owner("12"), counts()
]


def flat(calls):
    return [part for call in calls for part in call]


def split_up(given):
    """Each answer as (number, row), with both counts checked on the way."""
    found = []
    place = 0
    while place < len(given):
        many = given[place]
        answer = given[place + 1:place + 1 + many]
        assert len(answer) == many, given
        assert many == 2 + answer[1], given
        assert all(isinstance(part, int) and not isinstance(part, bool) for part in answer), given
        found.append((answer[0], answer[2:]))
        place += 1 + many
    return found


def ask(*calls):
    found = split_up(answers(flat(calls)))
    assert len(found) == len(calls), found
    return found


def last(*calls):
    return ask(*calls)[-1]


class Watched:
    """A town whose exchange can be looked into between two calls."""

    def __init__(self, *calls):
        self.town = Town()
        self.do(*calls)

    def do(self, *calls):
        answer = None
        for request in read_requests(flat(calls)):
            answer = answer_request(self.town, request)
        return answer

    @property
    def exchange(self):
        return self.town.exchange

    def states(self):
        return [line.state for line in self.exchange.lines]

    def calls(self):
        """Each call that is on, as (from, to, middle switch)."""
        return [(call.caller, call.called, call.way) for call in self.exchange.calls]

    def picture(self):
        return picture_of(self.town)


def picture_of(value):
    """All that a value keeps, as plain values that can be compared."""
    if isinstance(value, (list, tuple)):
        return [picture_of(part) for part in value]
    if isinstance(value, dict):
        return [(key, picture_of(part)) for key, part in value.items()]
    if hasattr(value, "__dict__"):
        return picture_of(vars(value))
    return value


class Kept(unittest.TestCase):
    def refused(self, seen, call, refusal):
        before = seen.picture()
        self.assertEqual(seen.do(call), [refusal], call)
        self.assertEqual(seen.picture(), before, call)

    def granted(self, seen, call):
        self.assertEqual(seen.do(call), [0], call)
