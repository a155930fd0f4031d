"""The exchange as it is used: a list of calls in, the list of their answers out."""

from townexchange.hall import Exchange, Town
from townexchange.orders import clear_number, give_number, hand_on, make_group, set_wait, tell_price
from townexchange.phone import lift, press_digit
from townexchange.reading import BEGIN, CLEAR, DIGIT, GROUP, HAND, LIFT, NUMBER, OF_A_LINE, PRICE, WAIT, read_requests
from townexchange.refusals import NONE_SUCH, NOT_BEGUN, NOT_WRITTEN_YET

MOST_LINES_EACH = 8
MOST_SWITCHES = 8
MOST_MIDDLES = 16


def sizes_fit(lines_each, switches, middles):
    if lines_each < 1 or lines_each > MOST_LINES_EACH:
        return False
    if switches < 1 or switches > MOST_SWITCHES:
        return False
    return lines_each <= middles and middles <= MOST_MIDDLES


def begin(town, request):
    lines_each = request.numbers[0]
    switches = request.numbers[1]
    middles = request.numbers[2]
    if not sizes_fit(lines_each, switches, middles):
        return [NONE_SUCH]
    town.exchange = Exchange(lines_each, switches, middles)
    return [len(town.exchange.lines)]


def answer_of(exchange, request):
    if request.kind == NUMBER:
        return give_number(exchange, request)
    if request.kind == CLEAR:
        return clear_number(exchange, request)
    if request.kind == GROUP:
        return make_group(exchange, request)
    if request.kind == PRICE:
        return tell_price(exchange, request)
    if request.kind == HAND:
        return hand_on(exchange, request)
    if request.kind == WAIT:
        return set_wait(exchange, request)
    if request.kind == LIFT:
        return lift(exchange, request)
    if request.kind == DIGIT:
        return press_digit(exchange, request)
    return [NOT_WRITTEN_YET]


def answer_request(town, request):
    if request.kind == BEGIN:
        return begin(town, request)
    exchange = town.exchange
    if exchange is None:
        return [NOT_BEGUN]
    if request.kind in OF_A_LINE and request.numbers[0] >= len(exchange.lines):
        return [NONE_SUCH]
    return answer_of(exchange, request)


def laid_out(answer):
    row = answer[1:]
    return [2 + len(row), answer[0], len(row)] + row


def answers(calls):
    town = Town()
    given = []
    for request in read_requests(calls):
        given.extend(laid_out(answer_request(town, request)))
    return given
