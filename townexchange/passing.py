"""The passing of time: tick.

It answers a list: the number, then the numbers of the row.
"""

from townexchange.ending import end_ringing
from townexchange.hall import RINGS, WHEN_UNANSWERED
from townexchange.refusals import NOT_NOW
from townexchange.trying import give_tone, try_number


def rang_too_long(exchange, call):
    if exchange.lines[call.called].state != RINGS:
        return False
    return exchange.time - call.rings_since >= exchange.wait


def nobody_answers(exchange, call):
    end_ringing(exchange, call)
    onward = exchange.lines[call.called].hands[WHEN_UNANSWERED]
    if len(onward) == 0:
        give_tone(exchange.lines[call.caller])
        return 0
    # The caller waits on meanwhile: were it idle, it could be called by itself.
    return try_number(exchange, call.caller, call.number, onward, call.handed_on + 1)


def pass_time(exchange, request):
    time = request.numbers[0]
    if time < exchange.time:
        return [NOT_NOW]
    exchange.time = time
    # Told before any is ended: a call that is handed on rings from now, so it's never among these.
    unanswered = [call for call in exchange.calls if rang_too_long(exchange, call)]
    moved = 0
    for call in unanswered:
        moved += nobody_answers(exchange, call)
    return [0, moved]
