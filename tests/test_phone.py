import unittest

from calling import (DIALS, IDLE, RINGS, TALKS, TONE, TOP, WAITS, Kept, Watched, ask, begin, clear, dial, digit, group,
                     hand, hang, last, lift, number, tick)


class Lift(Kept):
    def test_an_idle_line_dials(self):
        seen = Watched(begin(2, 2, 2))
        self.assertEqual(seen.do(lift(3)), [1])
        self.assertEqual(seen.states(), [IDLE, IDLE, IDLE, DIALS])
        self.assertEqual(seen.exchange.lines[3].dialed, [])
        self.assertEqual(last(begin(2, 2, 2), lift(0)), (1, []))

    def test_no_digits_so_far_whatever_was_dialed_before(self):
        seen = Watched(begin(2, 2, 2), number(1, "12"), *dial(0, "1"))
        self.assertEqual(seen.do(hang(0), lift(0)), [1])
        self.assertEqual(seen.do(digit(0, 2)), [TONE, 0])

    def test_one_that_rings_talks_and_so_does_who_called(self):
        seen = Watched(begin(2, 2, 2), number(2, "1"), *dial(1, "1"))
        self.assertEqual(seen.do(tick(17), lift(2)), [2])
        self.assertEqual(seen.states(), [IDLE, TALKS, TALKS, IDLE])
        call = seen.exchange.calls[0]
        self.assertEqual((call.rings_since, call.talks_since), (0, 17))
        self.assertEqual(last(begin(2, 2, 2), number(2, "1"), *dial(1, "1"), lift(2)), (2, []))

    def test_one_that_dials(self):
        self.refused(Watched(begin(2, 2, 2), lift(0)), lift(0), -5)
        self.refused(Watched(begin(2, 2, 2), number(1, "12"), *dial(0, "1")), lift(0), -5)

    def test_one_that_waits(self):
        self.refused(Watched(begin(2, 2, 2), number(1, "1"), *dial(0, "1")), lift(0), -5)

    def test_one_that_talks(self):
        seen = Watched(begin(2, 2, 2), number(1, "1"), *dial(0, "1"), lift(1))
        self.refused(seen, lift(0), -5)
        self.refused(seen, lift(1), -5)

    def test_one_that_hears_the_tone(self):
        self.refused(Watched(begin(2, 2, 2), *dial(0, "1")), lift(0), -5)

    def test_no_such_line(self):
        self.refused(Watched(begin(2, 2, 2)), lift(4), -1)


class Digit(Kept):
    def test_the_row_tells_how_many_were_moved(self):
        given = ask(begin(2, 2, 2), number(1, "12"), *dial(0, "12"), *dial(2, "3"))
        self.assertEqual(given[2:], [(1, []), (1, [0]), (3, [0]), (1, []), (4, [0])])

    def test_dials_on_while_some_number_begins_so(self):
        seen = Watched(begin(2, 2, 2), number(1, "12345678"), group("22", [2]), lift(0))
        for sign in range(1, 8):
            self.assertEqual(seen.do(digit(0, sign)), [DIALS, 0])
        self.assertEqual(seen.exchange.lines[0].dialed, [1, 2, 3, 4, 5, 6, 7])
        self.assertEqual(seen.do(digit(0, 8)), [WAITS, 0])
        self.assertEqual(seen.do(lift(3), digit(3, 2)), [DIALS, 0])
        self.assertEqual(seen.do(digit(3, 2)), [WAITS, 0])

    def test_a_number_that_nobody_has(self):
        seen = Watched(begin(2, 2, 2), number(1, "12"), *dial(0, "1"))
        self.assertEqual(seen.do(digit(0, 3)), [TONE, 0])
        self.assertEqual(seen.states(), [TONE, IDLE, IDLE, IDLE])
        self.assertEqual(seen.do(lift(2), digit(2, 0)), [TONE, 0])
        self.assertEqual(seen.calls(), [])

    def test_a_number_that_nobody_has_any_more(self):
        self.assertEqual(last(begin(2, 2, 2), number(1, "12"), *dial(0, "1"), clear(1), digit(0, 2)), (TONE, [0]))
        seen = Watched(begin(2, 2, 2), number(1, "12"), *dial(0, "1"), clear(1), number(1, "1"))
        self.assertEqual(seen.do(digit(0, 2)), [TONE, 0])

    def test_a_lines_number(self):
        seen = Watched(begin(2, 2, 2), number(3, "12"), tick(5))
        self.assertEqual(seen.do(*dial(0, "12")), [WAITS, 0])
        self.assertEqual(seen.states(), [WAITS, IDLE, IDLE, RINGS])
        call = seen.exchange.calls[0]
        self.assertEqual((call.caller, call.called, call.way), (0, 3, 0))
        self.assertEqual((call.number, call.handed_on), ([1, 2], 0))
        self.assertEqual((call.rings_since, call.talks_since), (5, None))
        self.assertEqual([line.call for line in seen.exchange.lines], [call, None, None, call])

    def test_a_line_that_is_not_idle(self):
        set_up = [begin(2, 3, 2), number(1, "1"), number(2, "2")]
        busy = {
            "dials": [lift(1)],
            "hears the tone": dial(1, "9"),
            "waits": dial(1, "2"),
            "rings": dial(3, "1"),
            "talks": dial(3, "1") + [lift(1)],
        }
        for what, calls in busy.items():
            seen = Watched(*set_up, *calls)
            before = seen.calls()
            self.assertEqual(seen.do(*dial(0, "1")), [TONE, 0], what)
            self.assertEqual(seen.calls(), before, what)

    def test_its_own_number(self):
        self.assertEqual(last(begin(2, 2, 2), number(0, "1"), *dial(0, "1")), (TONE, [0]))
        seen = Watched(begin(2, 2, 2), number(0, "1"), number(2, "2"), hand(0, 1, "2"))
        self.assertEqual(seen.do(*dial(0, "1")), [WAITS, 0])
        self.assertEqual(seen.calls(), [(0, 2, 0)])

    def test_a_groups_number(self):
        seen = Watched(begin(2, 4, 2), group("12", [5, 1, 3]))
        self.assertEqual(seen.do(*dial(0, "12")), [WAITS, 0])
        self.assertEqual(seen.do(*dial(2, "12")), [WAITS, 0])
        self.assertEqual(seen.do(*dial(4, "12")), [WAITS, 0])
        self.assertEqual(seen.do(*dial(6, "12")), [TONE, 0])
        self.assertEqual([call[:2] for call in seen.calls()], [(0, 5), (2, 1), (4, 3)])
        self.assertEqual(seen.states(), [WAITS, RINGS, WAITS, RINGS, WAITS, RINGS, TONE, IDLE])

    def test_one_of_several_groups(self):
        seen = Watched(begin(2, 2, 2), group("1", [1]), group("2", [2]), group("31", [3]))
        self.assertEqual(seen.do(*dial(0, "2")), [WAITS, 0])
        self.assertEqual(seen.calls(), [(0, 2, 0)])
        self.assertEqual(seen.do(*dial(1, "31")), [WAITS, 0])
        self.assertEqual(seen.calls(), [(0, 2, 0), (1, 3, 1)])

    def test_a_group_that_the_caller_is_in(self):
        seen = Watched(begin(2, 2, 2), group("1", [0, 2]), group("2", [3]))
        self.assertEqual(seen.do(*dial(0, "1")), [WAITS, 0])
        self.assertEqual(seen.calls(), [(0, 2, 0)])
        self.assertEqual(seen.do(*dial(3, "2")), [TONE, 0])

    def test_a_group_heeds_no_handing_on(self):
        set_up = [begin(2, 3, 2), group("1", [1, 2]), number(3, "3"), hand(1, 0, "3"), hand(1, 1, "3"), hand(2, 1, "3")]
        seen = Watched(*set_up)
        self.assertEqual(seen.do(*dial(0, "1")), [WAITS, 0])
        self.assertEqual(seen.do(lift(2)), [DIALS])
        self.assertEqual(seen.do(*dial(4, "1")), [TONE, 0])
        self.assertEqual([call[:2] for call in seen.calls()], [(0, 1)])
        self.assertEqual(seen.exchange.calls[0].handed_on, 0)

    def test_not_while_it_does_not_dial(self):
        set_up = [begin(2, 2, 2), number(1, "1")]
        self.refused(Watched(*set_up), digit(0, 1), -5)
        for calls, lines in ((dial(0, "1"), (0, 1)), (dial(0, "1") + [lift(1)], (0, 1)), (dial(0, "9"), (0,))):
            for line in lines:
                self.refused(Watched(*set_up, *calls), digit(line, 1), -5)

    def test_above_nine(self):
        seen = Watched(begin(2, 2, 2), number(1, "9"), lift(0))
        for sign in (10, 11, TOP):
            self.refused(seen, digit(0, sign), -1)
        self.assertEqual(seen.do(digit(0, 9)), [WAITS, 0])

    def test_which_refusal_counts(self):
        seen = Watched(begin(2, 2, 2))
        self.refused(seen, digit(4, 1), -1)
        self.refused(seen, digit(4, 10), -1)
        self.refused(seen, digit(0, 10), -1)
        self.refused(seen, digit(0, 9), -5)


class HandedOn(unittest.TestCase):
    def ends(self, set_up, dialed, called, times):
        """Line 0 dials; where it rings (None: nowhere) and how often it was handed on."""
        seen = Watched(begin(4, 4, 4), *set_up)
        answer = seen.do(*dial(0, dialed))
        if called is None:
            self.assertEqual(answer, [TONE, 0])
            self.assertEqual(seen.exchange.lines[0].state, TONE)
            self.assertEqual([call for call in seen.exchange.calls if call.caller == 0], [])
            return
        self.assertEqual(answer, [WAITS, 0])
        call = seen.exchange.lines[0].call
        self.assertEqual((call.called, call.handed_on), (called, times))
        self.assertEqual(call.number, [int(sign) for sign in dialed])

    def test_always(self):
        set_up = [number(1, "1"), number(2, "2"), hand(1, 0, "2")]
        self.ends(set_up, "1", 2, 1)
        self.ends(set_up + [lift(1)], "1", 2, 1)
        self.ends(set_up + [lift(2)], "1", None, 0)

    def test_always_comes_before_busy(self):
        set_up = [number(1, "1"), number(2, "2"), number(3, "3"), hand(1, 1, "3"), hand(1, 0, "2"), lift(1)]
        self.ends(set_up, "1", 2, 1)
        self.ends(set_up + [hand(1, 0, [])], "1", 3, 1)

    def test_when_it_is_busy(self):
        set_up = [number(1, "1"), number(2, "2"), hand(1, 1, "2")]
        self.ends(set_up, "1", 1, 0)
        self.ends(set_up + [lift(1)], "1", 2, 1)
        self.ends(set_up + [lift(1), lift(2)], "1", None, 0)
        self.ends(set_up + dial(4, "1"), "1", 2, 1)

    def test_when_nobody_answers_is_not_yet(self):
        set_up = [number(1, "1"), number(2, "2"), hand(1, 2, "2")]
        self.ends(set_up, "1", 1, 0)
        self.ends(set_up + [lift(1)], "1", None, 0)

    def test_to_a_number_that_nobody_has(self):
        self.ends([number(1, "1"), hand(1, 0, "7")], "1", None, 0)
        self.ends([number(1, "1"), hand(1, 1, "7"), lift(1)], "1", None, 0)
        self.ends([number(1, "1"), number(2, "23"), hand(1, 0, "2")], "1", None, 0)
        self.ends([number(1, "1"), number(2, "23"), hand(1, 0, "234")], "1", None, 0)
        self.ends([number(1, "1"), number(2, "23"), hand(1, 0, "23"), clear(2)], "1", None, 0)

    def test_to_itself(self):
        self.ends([number(1, "1"), hand(1, 0, "1")], "1", None, 0)
        self.ends([number(1, "1"), hand(1, 1, "1"), lift(1)], "1", None, 0)
        self.ends([number(1, "1"), hand(1, 1, "1")], "1", 1, 0)
        self.ends([number(1, "1"), number(2, "2"), hand(1, 0, "2"), hand(2, 0, "1")], "1", None, 0)

    def test_to_who_called(self):
        set_up = [number(0, "5"), number(1, "1"), number(2, "2"), hand(1, 0, "5")]
        self.ends(set_up, "1", None, 0)
        self.ends(set_up + [hand(0, 1, "2")], "1", 2, 2)

    def test_to_a_group(self):
        set_up = [number(1, "1"), hand(1, 0, "66"), group("66", [0, 5, 6]), hand(5, 0, "1")]
        self.ends(set_up, "1", 5, 1)
        self.ends(set_up + [lift(5)], "1", 6, 1)
        self.ends(set_up + [lift(5), lift(6)], "1", None, 0)

    def test_five_times_and_the_sixth(self):
        numbers = [number(line, str(line)) for line in range(1, 8)]
        for when in (0, 1):
            for times in range(1, 8):
                hands = [hand(line, when, str(line + 1)) for line in range(1, times + 1) if line < 7]
                busy = [lift(line) for line in range(1, times + 1) if when == 1 and line < 7]
                called = times + 1 if times <= 5 else None
                self.ends(numbers + hands + busy, "1", called, times)

    def test_the_sixth_time_neither_rings_nor_goes_to_a_group(self):
        chain = [number(line, str(line)) for line in range(1, 7)]
        chain += [hand(line, 0, str(line + 1)) for line in range(1, 6)]
        self.ends(chain + [hand(6, 0, "7"), group("7", [8])], "1", None, 0)
        self.ends(chain[:-1] + [hand(5, 0, "7"), group("7", [8])], "1", 8, 5)
        self.ends(chain + [hand(6, 1, "7"), group("7", [8])], "1", 6, 5)
        self.ends(chain + [hand(6, 1, "7"), group("7", [8]), lift(6)], "1", None, 0)
