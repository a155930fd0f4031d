import random
import unittest

from calling import IDLE, RINGS, TALKS, WAITS, Watched, counts, dial, hang, lift, town


def hang_together(n, calls, last_switch):
    """Those of the calls that are joined, switch by switch, to a switch of the last stage."""
    found = []
    reached = [(1, last_switch)]
    while reached:
        side, switch = reached.pop()
        for call in calls:
            if call not in found and call[side] // n == switch:
                found.append(call)
                reached.append((0, call[0] // n))
                reached.append((1, call[1] // n))
    return found


class Ways(unittest.TestCase):
    def call(self, seen, caller, called):
        return seen.do(*dial(caller, f"{called:02d}"))

    def test_the_least_that_is_free_at_both(self):
        seen = Watched(*town(3, 3, 5))
        for caller, called, way in ((0, 3, 0), (1, 4, 1), (6, 5, 2), (2, 7, 2)):
            self.assertEqual(self.call(seen, caller, called), [WAITS, 0])
            self.assertEqual(seen.calls()[-1], (caller, called, way))

    def test_a_line_calls_from_the_first_stage_and_is_called_at_the_last(self):
        seen = Watched(*town(2, 2, 2))
        self.assertEqual(self.call(seen, 0, 2), [WAITS, 0])
        self.assertEqual(self.call(seen, 3, 1), [WAITS, 0])
        self.assertEqual(seen.calls(), [(0, 2, 0), (3, 1, 0)])

    def test_within_one_switch(self):
        seen = Watched(*town(4, 1, 4))
        self.assertEqual(self.call(seen, 0, 1), [WAITS, 0])
        self.assertEqual(self.call(seen, 3, 2), [WAITS, 0])
        self.assertEqual(seen.calls(), [(0, 1, 0), (3, 2, 1)])

    def blocked(self):
        seen = Watched(*town(2, 5, 2))
        for caller, called in ((0, 2), (1, 4), (6, 8)):
            self.assertEqual(self.call(seen, caller, called), [WAITS, 0])
        self.assertEqual(seen.calls(), [(0, 2, 0), (1, 4, 1), (6, 8, 0)])
        return seen

    def test_calls_are_put_on_another_way(self):
        seen = self.blocked()
        self.assertEqual(self.call(seen, 7, 5), [WAITS, 2])
        self.assertEqual(seen.calls(), [(0, 2, 1), (1, 4, 0), (6, 8, 0), (7, 5, 1)])

    def test_the_least_that_is_free_at_one_alone(self):
        """At the caller's switch 2 and 3 are free, at the other 0 and 1: 2 is left, 0 is taken."""
        seen = Watched(*town(3, 7, 4))
        calls = [(0, 9, 0), (1, 10, 1), (2, 6, 2), (3, 12, 0), (4, 13, 1), (5, 7, 3), (15, 18, 0), (16, 19, 1)]
        for caller, called, way in calls:
            self.assertEqual(self.call(seen, caller, called), [WAITS, 0])
        self.assertEqual(seen.calls(), calls)
        self.assertEqual(self.call(seen, 17, 8), [WAITS, 2])
        self.assertEqual(seen.calls(), [(0, 9, 2), (1, 10, 1), (2, 6, 0)] + calls[3:] + [(17, 8, 2)])

    def test_who_is_moved_talks_on(self):
        seen = self.blocked()
        seen.do(lift(2), lift(4))
        before = [(call.caller, call.called, call.number, call.rings_since, call.talks_since)
                  for call in seen.exchange.calls]
        self.assertEqual(self.call(seen, 7, 5), [WAITS, 2])
        after = [(call.caller, call.called, call.number, call.rings_since, call.talks_since)
                 for call in seen.exchange.calls]
        self.assertEqual(after[:3], before)
        self.assertEqual(seen.states(), [TALKS, TALKS, TALKS, IDLE, TALKS, RINGS, WAITS, WAITS, RINGS, IDLE])

    def test_from_one_to_four_are_moved(self):
        calls = ((10, 12), (11, 2), (0, 3), (1, 4), (6, 8))
        # Each call that is taken out of the row leaves one less to be moved.
        for gone in range(4):
            seen = Watched(*town(2, 7, 2))
            for caller, called in calls:
                self.assertEqual(self.call(seen, caller, called), [WAITS, 0])
            self.assertEqual([call[2] for call in seen.calls()], [0, 1, 0, 1, 0])
            for caller, called in calls[:gone]:
                self.assertEqual(seen.do(hang(caller)), [0])
            self.assertEqual(self.call(seen, 7, 5), [WAITS, 4 - gone])
            self.assertEqual([call[2] for call in seen.calls()], [1, 0, 1, 0, 0, 1][gone:])

    def check_step(self, sizes, before, after, moved):
        """What section 1 tells of one more call, worked out from the calls as they were."""
        n, r, m = sizes
        caller, called, way = after[-1]
        first, last = caller // n, called // n
        at_first = [k for k in range(m) if not [c for c in before if c[0] // n == first and c[2] == k]]
        at_last = [k for k in range(m) if not [c for c in before if c[1] // n == last and c[2] == k]]
        both = [k for k in at_first if k in at_last]
        if both:
            self.assertEqual((way, moved, after[:-1]), (both[0], 0, before))
            return
        a, b = at_first[0], at_last[0]
        swapped = hang_together(n, [c for c in before if c[2] in (a, b)], last)
        wanted = [(c[0], c[1], a + b - c[2]) if c in swapped else c for c in before]
        self.assertEqual((way, moved, after[:-1]), (a, len(swapped), wanted))

    def check_rules(self, sizes, seen, moved):
        n, r, m = sizes
        calls = seen.calls()
        from_each = [(call[0] // n, call[2]) for call in calls]
        to_each = [(call[1] // n, call[2]) for call in calls]
        self.assertEqual(len(set(from_each)), len(calls))
        self.assertEqual(len(set(to_each)), len(calls))
        self.assertTrue(all(0 <= call[2] < m for call in calls))
        lines = [line for call in calls for line in call[:2]]
        self.assertEqual(len(set(lines)), len(lines))
        self.assertLessEqual(moved, 2 * r - 2)
        if m >= 2 * n - 1:
            self.assertEqual(moved, 0)

    def test_never_blocked_whatever_others_are_on(self):
        chance = random.Random(1)
        moved_in_all = 0
        for turn in range(200):
            n = chance.randint(1, 8)
            m = n if chance.random() < 0.7 else chance.randint(n, 16)
            moved_in_all += self.busy_day((n, chance.randint(1, 8), m), chance)
        self.assertGreater(moved_in_all, 200)

    def busy_day(self, sizes, chance):
        n, r, m = sizes
        seen = Watched(*town(n, r, m))
        # Ways grow scarce where whole switches call and others are called: some lines keep to one of both.
        calling = [line for line in range(n * r) if line // n < r // 2 or chance.random() < 0.2]
        moved = 0
        for step in range(2 * n * r):
            idle = [line for line in range(n * r) if seen.exchange.lines[line].state == IDLE]
            callers = [line for line in idle if line in calling]
            if len(callers) == 0 or len(idle) < 2 or chance.random() < 0.3:
                self.end_some_call(seen, chance)
                continue
            caller = chance.choice(callers)
            others = [line for line in idle if line != caller]
            called = chance.choice([line for line in others if line not in calling] or others)
            before = seen.calls()
            answer = self.call(seen, caller, called)
            self.assertEqual(answer[0], WAITS)
            self.check_step(sizes, before, seen.calls(), answer[1])
            self.check_rules(sizes, seen, answer[1])
            moved += answer[1]
        self.assertEqual(seen.do(counts())[3], moved)
        return moved

    def end_some_call(self, seen, chance):
        if len(seen.exchange.calls) == 0:
            return
        caller, called, way = chance.choice(seen.calls())
        if chance.random() < 0.5:
            self.assertEqual(seen.do(hang(caller)), [0])
        else:
            self.assertEqual(seen.do(lift(called), hang(called), hang(caller)), [0])
