"""The calls that set the exchange up: number, clear, group, price, hand, wait.

Each answers a list: the number, then the numbers of the row.
"""

from townexchange.hall import WHEN_UNANSWERED, Group
from townexchange.numbering import are_digits, clashes, is_number
from townexchange.refusals import ALL_TAKEN, NONE_SUCH, NONE_THERE, NOT_NOW, NUMBERS_CLASH

MOST_MEMBERS = 8
MOST_GROUPS = 8
MOST_PRICES = 16
MOST_CENTS = 1000
LONGEST_WAIT = 1000


def give_number(exchange, request):
    line = exchange.lines[request.numbers[0]]
    digits = request.rows[0]
    if not is_number(digits):
        return [NONE_SUCH]
    if line.number is not None:
        return [NOT_NOW]
    if clashes(exchange, digits):
        return [NUMBERS_CLASH]
    line.number = digits
    return [0]


def clear_number(exchange, request):
    line = exchange.lines[request.numbers[0]]
    if line.number is None:
        return [NONE_THERE]
    line.number = None
    return [0]


def are_members(exchange, places):
    if len(places) < 1 or len(places) > MOST_MEMBERS:
        return False
    if len(set(places)) < len(places):
        return False
    return all([place < len(exchange.lines) for place in places])


def make_group(exchange, request):
    digits = request.rows[0]
    members = request.rows[1]
    if not is_number(digits) or not are_members(exchange, members):
        return [NONE_SUCH]
    if clashes(exchange, digits):
        return [NUMBERS_CLASH]
    if len(exchange.groups) >= MOST_GROUPS:
        return [ALL_TAKEN]
    exchange.groups.append(Group(digits, members))
    return [0]


def tell_price(exchange, request):
    cents = request.numbers[0]
    digits = request.rows[0]
    if cents > MOST_CENTS or not are_digits(digits):
        return [NONE_SUCH]
    told_for = tuple(digits)
    if told_for not in exchange.prices and len(exchange.prices) >= MOST_PRICES:
        return [ALL_TAKEN]
    exchange.prices[told_for] = cents
    return [0]


def hand_on(exchange, request):
    line = exchange.lines[request.numbers[0]]
    when = request.numbers[1]
    digits = request.rows[0]
    if when > WHEN_UNANSWERED or not are_digits(digits):
        return [NONE_SUCH]
    line.hands[when] = digits
    return [0]


def set_wait(exchange, request):
    time = request.numbers[0]
    if time < 1 or time > LONGEST_WAIT:
        return [NONE_SUCH]
    exchange.wait = time
    return [0]
