"""How a call ends: its way is free, who was in it is idle or hears the tone, and who called pays if they talked."""

from townexchange.hall import IDLE
from townexchange.numbering import price_of
from townexchange.trying import give_tone

MINUTE = 60


def make_idle(line):
    line.state = IDLE
    line.call = None


def minutes_begun(time):
    return max(1, (time + MINUTE - 1) // MINUTE)


def cents_of(exchange, call):
    return price_of(exchange, call.number) * minutes_begun(exchange.time - call.talks_since)


def end_ringing(exchange, call):
    # The caller is left as it is: whoever ends the call knows whether it hung up, is handed on or hears the tone.
    exchange.calls.remove(call)
    make_idle(exchange.lines[call.called])


def end_talk(exchange, call, hung_up):
    cents = cents_of(exchange, call)
    exchange.calls.remove(call)
    exchange.records.append([call.caller, call.called, call.talks_since, exchange.time, cents])
    exchange.lines[call.caller].owed += cents
    other = call.called if hung_up == call.caller else call.caller
    make_idle(exchange.lines[hung_up])
    give_tone(exchange.lines[other])
    return cents
