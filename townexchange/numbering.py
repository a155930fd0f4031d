"""Digits, numbers, whose they are, and what they cost."""

MOST_DIGITS = 8
TOP_DIGIT = 9


def are_digits(row):
    return len(row) <= MOST_DIGITS and all([digit <= TOP_DIGIT for digit in row])


def is_number(row):
    return len(row) > 0 and are_digits(row)


def begins(start, row):
    return row[:len(start)] == start


def numbers_there(exchange):
    of_lines = [line.number for line in exchange.lines if line.number is not None]
    return of_lines + [group.number for group in exchange.groups]


def some_number_begins(exchange, digits):
    return any([begins(digits, number) for number in numbers_there(exchange)])


def clashes(exchange, digits):
    return any([begins(digits, number) or begins(number, digits) for number in numbers_there(exchange)])


def line_of_number(exchange, digits):
    for place, line in enumerate(exchange.lines):
        if line.number == digits:
            return place
    return None


def group_of_number(exchange, digits):
    for group in exchange.groups:
        if group.number == digits:
            return group
    return None


def is_somebodys(exchange, digits):
    return digits in numbers_there(exchange)


def price_of(exchange, number):
    cents = 0
    for length in range(len(number) + 1):
        # The longest digits come last, so they are the ones that stay.
        cents = exchange.prices.get(tuple(number[:length]), cents)
    return cents
