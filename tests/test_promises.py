"""What the document promises over the whole program, whatever is called."""

import random
import unittest

from calling import (DIALS, IDLE, RINGS, TALKS, TONE, TOP, WAITS, Watched, begin, clear, counts, dial, digit, flat,
                     group, hand, hang, last, lift, look, middle, number, owes, owner, price, record, split_up, tick,
                     town, wait)

from townexchange.exchange import answers

IN_A_CALL = (TALKS, WAITS, RINGS)

# Every answer (of a refusal, the refusal) that the document tells of a call.
ANSWERED = {
    1: (-1,), 2: (-1, -5, -6, 0), 3: (-1, -3, 0), 4: (-1, -6, -9, 0), 5: (-1, -9, 0), 6: (-1, 0), 7: (-1, 0),
    8: (-1, -5, DIALS, TALKS), 9: (-1, -5, DIALS, WAITS, TONE), 10: (-1, -5, 0), 11: (-5, 0),
    12: (-1, IDLE, DIALS, TALKS, WAITS, TONE, RINGS), 13: (-1,), 14: (-1,), 15: (-3, 0),
    16: (-1, -4, 0, 1, 2), 17: (0,),
}
# A number (of lines, calls, cents) may be answered beside those above.
ANY_NUMBER = (1, 13, 14)


def some_digits(chance):
    many = chance.choice([0, 1, 1, 1, 2, 2, 2, 3, 8, 9])
    return [10 if chance.random() < 0.03 else chance.randint(0, 3) for place in range(many)]


def some_call(chance, lines, time):
    line = chance.randint(0, lines)
    return chance.choice([
        lambda: number(line, some_digits(chance)),
        lambda: number(line, some_digits(chance)),
        lambda: clear(line) if chance.random() < 0.3 else lift(line),
        lambda: group(some_digits(chance), [chance.randint(0, lines) for place in range(chance.randint(0, 4))]),
        lambda: price(chance.choice([0, 5, 1000, 1001]), some_digits(chance)),
        lambda: hand(line, chance.randint(0, 3), some_digits(chance)),
        lambda: hand(line, 2, some_digits(chance)),
        lambda: wait(chance.choice([0, 1, 30, 1000, 1001])) if chance.random() < 0.3 else lift(line),
        lambda: lift(line),
        lambda: lift(line),
        lambda: digit(line, chance.choice([0, 1, 2, 3, 10])),
        lambda: digit(line, chance.choice([0, 1, 2, 3])),
        lambda: digit(line, chance.choice([0, 1, 2, 3])),
        lambda: digit(line, chance.choice([0, 1, 2, 3])),
        lambda: hang(line),
        lambda: tick(max(0, time + chance.choice([-1, 0, 1, 5, 29, 30, 61]))),
        lambda: tick(time + chance.choice([0, 1, 5])),
        lambda: look(line),
        lambda: middle(chance.randint(0, 16)),
        lambda: owes(line),
        lambda: record(chance.choice([0, 1, 2, TOP])),
        lambda: owner(some_digits(chance)),
        lambda: counts(),
    ])()


class View:
    """An exchange as its calls tell of it."""

    def __init__(self, seen, sizes):
        n, r, m = sizes
        self.lines = [seen.do(look(line)) for line in range(n * r)]
        self.middles = [seen.do(middle(switch)) for switch in range(m)]
        self.owed = [seen.do(owes(line))[0] for line in range(n * r)]
        told = seen.do(counts())
        self.calls, self.recorded, self.moved, self.time = told[1:]
        self.records = [seen.do(record(place))[1:] for place in range(self.recorded)]

    def told(self):
        return vars(self)


class Promises(unittest.TestCase):
    def check_lines(self, view):
        """P3: each line is in one call at most, and both that are in a call tell of the same one."""
        callers = 0
        for place, told in enumerate(view.lines):
            if told[0] not in IN_A_CALL:
                continue
            caller, called = told[1:3]
            self.assertIn(place, (caller, called))
            self.assertNotEqual(caller, called)
            self.assertEqual(view.lines[caller][1:], view.lines[called][1:])
            pair = (view.lines[caller][0], view.lines[called][0])
            self.assertIn(pair, [(WAITS, RINGS), (TALKS, TALKS)])
            callers += place == caller
        self.assertEqual(view.calls, callers)

    def check_ways(self, sizes, view):
        """By each middle switch goes at most one call from each switch, at most one to each."""
        by_looks = {tuple(told[1:4]) for told in view.lines if told[0] in IN_A_CALL}
        by_middles = set()
        for switch, told in enumerate(view.middles):
            pairs = [(told[place], told[place + 1]) for place in range(1, len(told), 2)]
            self.assertEqual(told[0], len(pairs))
            self.assertEqual(len({pair[0] // sizes[0] for pair in pairs}), len(pairs))
            self.assertEqual(len({pair[1] // sizes[0] for pair in pairs}), len(pairs))
            since = [view.lines[pair[0]][5] for pair in pairs]
            self.assertEqual(since, sorted(since))
            by_middles |= {(pair[0], pair[1], switch) for pair in pairs}
        self.assertEqual(by_middles, by_looks)

    def check_pay(self, view):
        """P4: who called pays."""
        owed = [0] * len(view.owed)
        for caller, called, since, ended, cents in view.records:
            owed[caller] += cents
            self.assertLessEqual(since, ended)
            minutes = max(1, -(-(ended - since) // 60))
            self.assertEqual(cents % minutes, 0)
        self.assertEqual(view.owed, owed)
        self.assertEqual([told[3] for told in view.records], sorted(told[3] for told in view.records))

    def check_handed_on(self, seen, view, ticked):
        """P6: a call is handed on five times at most; none rings longer than the wait, when time has passed."""
        for told in view.lines:
            if told[0] in IN_A_CALL:
                self.assertLessEqual(told[4], 5)
                self.assertLessEqual(told[5], view.time)
            if told[0] == RINGS and ticked:
                self.assertLess(view.time - told[5], seen.exchange.wait)

    def check_numbers(self, seen):
        """P5: no number begins another."""
        numbers = [line.number for line in seen.exchange.lines if line.number is not None]
        numbers = sorted(numbers + [one.number for one in seen.exchange.groups])
        for one, behind in zip(numbers, numbers[1:]):
            self.assertNotEqual(behind[:len(one)], one)

    def check_talks_on(self, call, before, after):
        """P2: who talked and didn't hang up, nor the other, talks on; only the way may be another one."""
        for told, now in zip(before.lines, after.lines):
            if told[0] == TALKS and not (call[0] == 10 and call[1] in told[1:3]):
                self.assertEqual(told[:3] + told[4:], now[:3] + now[4:])

    def check_moved(self, sizes, call, answer, before, after):
        n, r, m = sizes
        moved = answer[1] if call[0] in (9, 11) and answer[0] >= 0 else 0
        self.assertEqual(after.moved - before.moved, moved)
        if call[0] == 9:
            self.assertLessEqual(moved, 2 * r - 2)
        if m >= 2 * n - 1:
            self.assertEqual(moved, 0)

    def check_answer(self, call, answer):
        if call[0] not in ANY_NUMBER or answer[0] < 0:
            self.assertIn(answer[0], ANSWERED[call[0]], call)

    def check_step(self, sizes, seen, call, before):
        kept = seen.picture()
        answer = seen.do(call)
        if answer[0] < 0:
            self.assertEqual(len(answer), 1)
        if answer[0] < 0 or call[0] >= 12:
            self.assertEqual(seen.picture(), kept, call)
        self.check_answer(call, answer)
        after = View(seen, sizes)
        self.check_lines(after)
        self.check_ways(sizes, after)
        self.check_pay(after)
        self.check_handed_on(seen, after, call[0] == 11 and answer[0] == 0)
        self.check_numbers(seen)
        self.check_talks_on(call, before, after)
        self.check_moved(sizes, call, answer, before, after)
        return answer, after

    def test_whatever_is_called(self):
        chance = random.Random(2)
        reached = set()
        for turn in range(60):
            n, r = chance.randint(1, 4), chance.randint(1, 5)
            m = n if chance.random() < 0.7 else chance.randint(n, 16)
            calls = [begin(n, r, m)]
            seen = Watched(*calls)
            view = View(seen, (n, r, m))
            for step in range(250):
                call = some_call(chance, n * r, view.time)
                calls.append(call)
                answer, view = self.check_step((n, r, m), seen, call, view)
                reached.add((call[0], answer[0]))
            self.assertEqual(last(*calls), (answer[0], answer[1:]))
        wanted = {(kind, one) for kind in range(2, 18) for one in ANSWERED[kind]} - {(4, -9), (5, -9)}
        self.assertEqual(wanted - reached, set())

    def test_every_list_is_answered(self):
        chance = random.Random(3)
        for turn in range(300):
            lines, time = chance.choice([0, 4, 12]), 0
            calls = []
            for step in range(chance.randint(1, 60)):
                call = some_call(chance, lines, time)
                if chance.random() < 0.1:
                    call = begin(chance.randint(0, 4), chance.randint(0, 4), chance.randint(0, 8))
                time = call[1] if call[0] == 11 else time
                calls.append(call)
            begun = False
            for call, answer in zip(calls, split_up(answers(flat(calls))), strict=True):
                begun = begun or (call[0] == 1 and answer[0] > 0)
                if begun:
                    self.check_answer(call, answer)
                elif call[0] > 1:
                    self.assertEqual(answer, (-2, []))

    def test_between_two_free_lines_never_blocked(self):
        """P1, with calls that are hung up, that ring too long and that are handed on."""
        chance = random.Random(4)
        for turn in range(60):
            n, r = chance.randint(1, 8), chance.randint(2, 8)
            sizes = (n, r, n if chance.random() < 0.7 else chance.randint(n, 16))
            seen = Watched(*town(*sizes))
            for line in range(n * r):
                seen.do(hand(line, 2, f"{chance.randrange(n * r):02d}"))
            for step in range(n * r):
                idle = [line for line in range(n * r) if seen.do(look(line)) == [IDLE]]
                if len(idle) > 1:
                    caller, called = chance.sample(idle, 2)
                    self.assertEqual(seen.do(*dial(caller, f"{called:02d}"))[0], WAITS)
                    self.assertEqual(seen.do(look(called))[:3], [RINGS, caller, called])
                self.shake(seen, chance, n * r)
            view = View(seen, sizes)
            self.check_lines(view)
            self.check_ways(sizes, view)
            self.check_pay(view)

    def shake(self, seen, chance, lines):
        line = chance.randrange(lines)
        time = seen.do(counts())[4]
        seen.do(chance.choice([lift(line), hang(line), tick(time + chance.choice([1, 7]))]))
