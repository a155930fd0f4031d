"""What an exchange keeps: its lines, groups and prices, the calls that are on, and the records of those that were."""

IDLE = 0
DIALS = 1
TALKS = 2
WAITS = 3
TONE = 4
RINGS = 5

ALWAYS = 0
WHEN_BUSY = 1
WHEN_UNANSWERED = 2

FIRST_WAIT = 30


class Line:
    def __init__(self):
        self.state = IDLE
        self.number = None
        self.dialed = []
        # One row of digits for each of ALWAYS, WHEN_BUSY, WHEN_UNANSWERED; an empty one hands nothing on.
        self.hands = [[], [], []]
        self.call = None
        self.owed = 0


class Group:
    def __init__(self, number, members):
        self.number = number
        self.members = members


class Call:
    def __init__(self, caller, called, number, handed_on, time):
        self.caller = caller
        self.called = called
        # The number that was dialed first: who called pays its price, wherever the call was handed on to.
        self.number = number
        self.handed_on = handed_on
        self.rings_since = time
        self.talks_since = None
        self.way = None


class Exchange:
    def __init__(self, lines_each, switches, middles):
        self.lines_each = lines_each
        self.middles = middles
        self.lines = [Line() for place in range(lines_each * switches)]
        self.groups = []
        self.prices = {}
        # In the order in which they began to ring.
        self.calls = []
        # In the order in which they ended; of each: from, to, since when they talked, when it ended, cents.
        self.records = []
        self.moved = 0
        self.time = 0
        self.wait = FIRST_WAIT


class Town:
    def __init__(self):
        self.exchange = None
