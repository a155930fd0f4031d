"""The exchange as it is used: a list of calls in, the list of their answers out."""

from townexchange.hall import Exchange, Town
from townexchange.orders import clear_number, give_number, hand_on, make_group, set_wait, tell_price
from townexchange.passing import pass_time
from townexchange.phone import hang, lift, press_digit
from townexchange.reading import BEGIN, CLEAR, DIGIT, GROUP, HAND, HANG, LIFT, NUMBER, OF_A_LINE, PRICE, WAIT
from townexchange.reading import LOOK, MIDDLE, OWES, OWNER, RECORD, TICK, read_requests
from townexchange.refusals import NONE_SUCH, NOT_BEGUN
from townexchange.telling import look_at_line, look_at_middle, tell_counts, tell_owed, tell_owner, tell_record

MOST_LINES_EACH = 8
MOST_SWITCHES = 8
MOST_MIDDLES = 16


def sizes_fit(lines_each, switches, middles):
    if lines_each < 1 or lines_each > MOST_LINES_EACH:
        return False
    if switches < 1 or switches > MOST_SWITCHES:
        return False
    return lines_each <= middles and middles <= MOST_MIDDLES


def begin(town, request):
    lines_each = request.numbers[0]
    switches = request.numbers[1]
    middles = request.numbers[2]
    if not sizes_fit(lines_each, switches, middles):
        return [NONE_SUCH]
    town.exchange = Exchange(lines_each, switches, middles)
    return [len(town.exchange.lines)]


def answer_of_order(exchange, request):
    if request.kind == NUMBER:
        return give_number(exchange, request)
    if request.kind == CLEAR:
        return clear_number(exchange, request)
    if request.kind == GROUP:
        return make_group(exchange, request)
    if request.kind == PRICE:
        return tell_price(exchange, request)
    if request.kind == HAND:
        return hand_on(exchange, request)
    return set_wait(exchange, request)


def answer_of_doing(exchange, request):
    if request.kind == LIFT:
        return lift(exchange, request)
    if request.kind == DIGIT:
        return press_digit(exchange, request)
    if request.kind == HANG:
        return hang(exchange, request)
    return pass_time(exchange, request)


def answer_of_telling(exchange, request):
    if request.kind == LOOK:
        return look_at_line(exchange, request)
    if request.kind == MIDDLE:
        return look_at_middle(exchange, request)
    if request.kind == OWES:
        return tell_owed(exchange, request)
    if request.kind == RECORD:
        return tell_record(exchange, request)
    if request.kind == OWNER:
        return tell_owner(exchange, request)
    return tell_counts(exchange)


def answer_of(exchange, request):
    if request.kind <= WAIT:
        return answer_of_order(exchange, request)
    if request.kind <= TICK:
        return answer_of_doing(exchange, request)
    return answer_of_telling(exchange, request)


def answer_request(town, request):
    if request.kind == BEGIN:
        return begin(town, request)
    exchange = town.exchange
    if exchange is None:
        return [NOT_BEGUN]
    if request.kind in OF_A_LINE and request.numbers[0] >= len(exchange.lines):
        return [NONE_SUCH]
    return answer_of(exchange, request)


def laid_out(answer):
    row = answer[1:]
    return [2 + len(row), answer[0], len(row)] + row


def answers(calls):
    town = Town()
    given = []
    for request in read_requests(calls):
        given.extend(laid_out(answer_request(town, request)))
    return given
