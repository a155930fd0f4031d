"""How a list of calls is read."""

BEGIN = 1
NUMBER = 2
CLEAR = 3
GROUP = 4
PRICE = 5
HAND = 6
WAIT = 7
LIFT = 8
DIGIT = 9
HANG = 10
TICK = 11
LOOK = 12
MIDDLE = 13
OWES = 14
RECORD = 15
OWNER = 16

# Of each call: how many whole numbers, then how many rows.
FORMS = {
    1: (3, 0),  # begin
    2: (1, 1),  # number
    3: (1, 0),  # clear
    4: (0, 2),  # group
    5: (1, 1),  # price
    6: (2, 1),  # hand
    7: (1, 0),  # wait
    8: (1, 0),  # lift
    9: (2, 0),  # digit
    10: (1, 0),  # hang
    11: (1, 0),  # tick
    12: (1, 0),  # look
    13: (1, 0),  # middle
    14: (1, 0),  # owes
    15: (1, 0),  # record
    16: (0, 1),  # owner
    17: (0, 0),  # counts
}

# The calls whose first whole number is a line: number, clear, hand, lift, digit, hang, look, owes.
OF_A_LINE = (2, 3, 6, 8, 9, 10, 12, 14)


class Request:
    def __init__(self, kind, numbers, rows):
        self.kind = kind
        self.numbers = numbers
        self.rows = rows


def read_rows(calls, start, how_many):
    rows = []
    place = start
    while len(rows) < how_many:
        end = place + 1 + calls[place]
        rows.append(calls[place + 1:end])
        place = end
    return rows


def read_request(calls, start):
    form = FORMS[calls[start]]
    end = start + 1 + form[0]
    return Request(calls[start], calls[start + 1:end], read_rows(calls, end, form[1]))


def length_of(request):
    return 1 + len(request.numbers) + sum([1 + len(row) for row in request.rows])


def read_requests(calls):
    requests = []
    place = 0
    while place < len(calls):
        request = read_request(calls, place)
        requests.append(request)
        place += length_of(request)
    return requests
