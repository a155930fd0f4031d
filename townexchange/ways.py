"""Which middle switch a call goes by, and which calls make room for it."""


def switch_of(exchange, line):
    return line // exchange.lines_each


def call_from(exchange, switch, middle):
    for call in exchange.calls:
        if call.way == middle and switch_of(exchange, call.caller) == switch:
            return call
    return None


def call_to(exchange, switch, middle):
    for call in exchange.calls:
        if call.way == middle and switch_of(exchange, call.called) == switch:
            return call
    return None


def free_from(exchange, switch):
    return [middle for middle in range(exchange.middles) if call_from(exchange, switch, middle) is None]


def free_to(exchange, switch):
    return [middle for middle in range(exchange.middles) if call_to(exchange, switch, middle) is None]


def calls_to_move(exchange, last, leave, take):
    # It comes to an end: each step goes to a switch that was not met, since no switch has two calls by one
    # middle switch, and none comes back to the start, where no call goes by the one that is taken.
    chain = []
    call = call_to(exchange, last, leave)
    while call is not None:
        chain.append(call)
        if call.way == leave:
            call = call_from(exchange, switch_of(exchange, call.caller), take)
        else:
            call = call_to(exchange, switch_of(exchange, call.called), leave)
    return chain


def put_on_a_way(exchange, call):
    last = switch_of(exchange, call.called)
    free_first = free_from(exchange, switch_of(exchange, call.caller))
    free_last = free_to(exchange, last)
    free_both = [middle for middle in free_first if middle in free_last]
    if len(free_both) > 0:
        call.way = free_both[0]
        return 0
    leave = free_first[0]
    take = free_last[0]
    # All are found before any is changed: a call that was moved would be found again on its new way.
    chain = calls_to_move(exchange, last, leave, take)
    for moved in chain:
        moved.way = take if moved.way == leave else leave
    call.way = leave
    return len(chain)
