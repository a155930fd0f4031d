"""What is done at a telephone: lift, digit, hang.

Each answers a list: the number, then the numbers of the row.
"""

from townexchange.ending import end_ringing, end_talk, make_idle
from townexchange.hall import DIALS, IDLE, RINGS, TALKS, WAITS
from townexchange.numbering import TOP_DIGIT, is_somebodys, some_number_begins
from townexchange.refusals import NONE_SUCH, NOT_NOW
from townexchange.trying import give_tone, try_number


def start_talk(exchange, call):
    call.talks_since = exchange.time
    exchange.lines[call.caller].state = TALKS
    exchange.lines[call.called].state = TALKS


def lift(exchange, request):
    line = exchange.lines[request.numbers[0]]
    if line.state == IDLE:
        line.state = DIALS
        line.dialed = []
        return [DIALS]
    if line.state == RINGS:
        start_talk(exchange, line.call)
        return [TALKS]
    return [NOT_NOW]


def press_digit(exchange, request):
    place = request.numbers[0]
    digit = request.numbers[1]
    line = exchange.lines[place]
    if digit > TOP_DIGIT:
        return [NONE_SUCH]
    if line.state != DIALS:
        return [NOT_NOW]
    dialed = line.dialed + [digit]
    line.dialed = dialed
    moved = 0
    if is_somebodys(exchange, dialed):
        moved = try_number(exchange, place, dialed, dialed, 0)
    elif not some_number_begins(exchange, dialed):
        give_tone(line)
    return [line.state, moved]


def hang(exchange, request):
    place = request.numbers[0]
    line = exchange.lines[place]
    if line.state == IDLE or line.state == RINGS:
        return [NOT_NOW]
    if line.state == TALKS:
        return [0, end_talk(exchange, line.call, place)]
    if line.state == WAITS:
        end_ringing(exchange, line.call)
    make_idle(line)
    return [0]
