"""Trying a number: where it rings, or that the caller hears the tone."""

from townexchange.hall import ALWAYS, IDLE, RINGS, TONE, WAITS, WHEN_BUSY, Call
from townexchange.numbering import group_of_number, line_of_number
from townexchange.ways import put_on_a_way

MOST_HANDED_ON = 5


def give_tone(line):
    line.state = TONE
    line.call = None


def enter_call(line, state, call):
    line.state = state
    line.call = call


def is_idle(exchange, place):
    return exchange.lines[place].state == IDLE


def handed_on_to(line):
    if len(line.hands[ALWAYS]) > 0:
        return line.hands[ALWAYS]
    if line.state == IDLE:
        return []
    return line.hands[WHEN_BUSY]


def first_idle_member(exchange, digits, caller):
    group = group_of_number(exchange, digits)
    if group is None:
        return None
    for place in group.members:
        if place != caller and is_idle(exchange, place):
            return place
    return None


def call_that_rings(exchange, caller, dialed, digits, handed_on):
    tried = digits
    times = handed_on
    while times <= MOST_HANDED_ON:
        called = line_of_number(exchange, tried)
        if called is None:
            called = first_idle_member(exchange, tried, caller)
            return None if called is None else Call(caller, called, dialed, times, exchange.time)
        onward = handed_on_to(exchange.lines[called])
        if len(onward) == 0:
            return Call(caller, called, dialed, times, exchange.time) if is_idle(exchange, called) else None
        tried = onward
        times += 1
    return None


def try_number(exchange, caller, dialed, digits, handed_on):
    call = call_that_rings(exchange, caller, dialed, digits, handed_on)
    if call is None:
        give_tone(exchange.lines[caller])
        return 0
    moved = put_on_a_way(exchange, call)
    exchange.moved += moved
    exchange.calls.append(call)
    enter_call(exchange.lines[call.caller], WAITS, call)
    enter_call(exchange.lines[call.called], RINGS, call)
    return moved
