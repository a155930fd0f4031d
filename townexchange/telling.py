"""The calls that tell of the exchange and change nothing: look, middle, owes, record, owner, counts.

Each answers a list: the number, then the numbers of the row.
"""

from townexchange.hall import DIALS
from townexchange.numbering import are_digits, group_of_number, line_of_number, some_number_begins
from townexchange.refusals import NO_NUMBER, NONE_SUCH, NONE_THERE

BEGINS_A_NUMBER = 0
A_LINES = 1
A_GROUPS = 2


def look_at_line(exchange, request):
    line = exchange.lines[request.numbers[0]]
    if line.state == DIALS:
        return [DIALS] + line.dialed
    call = line.call
    if call is None:
        return [line.state]
    return [line.state, call.caller, call.called, call.way, call.handed_on, call.rings_since]


def look_at_middle(exchange, request):
    middle = request.numbers[0]
    if middle >= exchange.middles:
        return [NONE_SUCH]
    by_it = [call for call in exchange.calls if call.way == middle]
    told = [len(by_it)]
    for call in by_it:
        told.extend([call.caller, call.called])
    return told


def tell_owed(exchange, request):
    return [exchange.lines[request.numbers[0]].owed]


def tell_record(exchange, request):
    place = request.numbers[0]
    if place >= len(exchange.records):
        return [NONE_THERE]
    return [0] + exchange.records[place]


def tell_owner(exchange, request):
    digits = request.rows[0]
    if not are_digits(digits):
        return [NONE_SUCH]
    place = line_of_number(exchange, digits)
    if place is not None:
        return [A_LINES, place]
    group = group_of_number(exchange, digits)
    if group is not None:
        return [A_GROUPS] + group.members
    return [BEGINS_A_NUMBER] if some_number_begins(exchange, digits) else [NO_NUMBER]


def tell_counts(exchange):
    return [0, len(exchange.calls), len(exchange.records), exchange.moved, exchange.time]
