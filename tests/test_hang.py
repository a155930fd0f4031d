from calling import (DIALS, IDLE, TALKS, TONE, TOP, WAITS, Kept, Watched, ask, begin, clear, counts, dial, group, hand,
                     hang, last, lift, look, middle, number, owes, price, record, tick)


def talked(time, *told):
    """Line 0 called line 3 by the number 12 and talks with it for a while; what is told comes ahead of the call."""
    return [begin(2, 2, 2), number(3, "12"), *told, tick(7), *dial(0, "12"), tick(11), lift(3), tick(11 + time)]


class HangNoTalk(Kept):
    def test_one_that_dials(self):
        for digits in ("", "1"):
            seen = Watched(begin(2, 2, 2), number(3, "12"), *dial(0, digits))
            self.assertEqual(seen.states()[0], DIALS)
            self.assertEqual(seen.do(hang(0)), [0])
            self.assertEqual(seen.states(), [IDLE] * 4)
            self.assertEqual(seen.do(counts()), [0, 0, 0, 0, 0])

    def test_one_that_hears_the_tone(self):
        seen = Watched(begin(2, 2, 2), *dial(0, "1"))
        self.assertEqual(seen.do(look(0)), [TONE])
        self.assertEqual(seen.do(hang(0)), [0])
        self.assertEqual(seen.do(look(0)), [IDLE])

    def test_one_that_waits(self):
        seen = Watched(begin(2, 2, 2), price(9, []), number(3, "12"), *dial(0, "12"))
        self.assertEqual(seen.do(look(0))[0], WAITS)
        self.assertEqual(seen.do(hang(0)), [0])
        self.assertEqual(seen.states(), [IDLE] * 4)
        self.assertEqual(seen.do(counts()), [0, 0, 0, 0, 0])
        self.assertEqual(seen.do(owes(0)), [0])
        self.assertEqual(seen.do(record(0)), [-3])

    def test_one_that_waits_is_free_for_another_call(self):
        seen = Watched(begin(2, 2, 2), number(0, "0"), number(3, "3"), *dial(0, "3"), hang(0))
        self.assertEqual(seen.do(*dial(3, "0")), [WAITS, 0])
        self.assertEqual(seen.calls(), [(3, 0, 0)])

    def test_one_that_is_idle(self):
        self.refused(Watched(begin(2, 2, 2)), hang(0), -5)
        self.refused(Watched(begin(2, 2, 2), lift(0), hang(0)), hang(0), -5)

    def test_one_that_rings(self):
        seen = Watched(begin(2, 2, 2), number(3, "1"), *dial(0, "1"))
        self.refused(seen, hang(3), -5)
        self.assertEqual(seen.do(lift(3)), [TALKS])

    def test_no_such_line(self):
        seen = Watched(begin(2, 2, 2), lift(0))
        self.refused(seen, hang(4), -1)
        self.refused(seen, hang(TOP), -1)

    def test_no_row_unless_it_talked(self):
        self.assertEqual(last(begin(2, 2, 2), lift(0), hang(0)), (0, []))
        self.assertEqual(last(begin(2, 2, 2), *dial(0, "1"), hang(0)), (0, []))
        self.assertEqual(last(begin(2, 2, 2), number(3, "1"), *dial(0, "1"), hang(0)), (0, []))


class HangTalk(Kept):
    def test_who_called(self):
        seen = Watched(*talked(5, price(4, "1")))
        self.assertEqual(seen.do(hang(0)), [0, 4])
        self.assertEqual(seen.states(), [IDLE, IDLE, IDLE, TONE])
        self.assertEqual(seen.do(owes(0)), [4])
        self.assertEqual(seen.do(owes(3)), [0])
        self.assertEqual(seen.do(record(0)), [0, 0, 3, 11, 16, 4])

    def test_who_was_called(self):
        seen = Watched(*talked(5, price(4, "1")))
        self.assertEqual(seen.do(hang(3)), [0, 4])
        self.assertEqual(seen.states(), [TONE, IDLE, IDLE, IDLE])
        self.assertEqual(seen.do(owes(0)), [4])
        self.assertEqual(seen.do(owes(3)), [0])
        self.assertEqual(seen.do(record(0)), [0, 0, 3, 11, 16, 4])

    def test_the_other_one_then(self):
        for first, other in ((0, 3), (3, 0)):
            seen = Watched(*talked(5, price(4, "1")), hang(first))
            self.refused(seen, lift(other), -5)
            self.refused(seen, hang(first), -5)
            self.assertEqual(seen.do(hang(other)), [0])
            self.assertEqual(seen.states(), [IDLE] * 4)
            self.assertEqual(seen.do(owes(0)), [4])
            self.assertEqual(seen.do(counts()), [0, 0, 1, 0, 16])

    def test_minutes_begun(self):
        for time, minutes in ((0, 1), (1, 1), (59, 1), (60, 1), (61, 2), (119, 2), (120, 2), (121, 3), (6000, 100)):
            for line in (0, 3):
                self.assertEqual(last(*talked(time, price(7, "1")), hang(line)), (0, [7 * minutes]), time)
                self.assertEqual(last(*talked(time, price(7, "1")), hang(line), owes(0)), (7 * minutes, []), time)

    def test_the_time_that_it_rang_costs_nothing(self):
        set_up = [begin(2, 2, 2), number(3, "1"), price(7, []), *dial(0, "1"), tick(29), lift(3)]
        self.assertEqual(last(*set_up, tick(89), hang(0)), (0, [7]))
        self.assertEqual(last(*set_up, tick(90), hang(0)), (0, [14]))

    def test_the_longest_time(self):
        top = 1099511627775
        set_up = [begin(2, 2, 2), number(3, "1"), price(1000, []), *dial(0, "1"), lift(3), tick(top)]
        self.assertEqual(last(*set_up, hang(3)), (0, [1000 * 18325193797]))

    def test_with_no_price_told(self):
        self.assertEqual(last(*talked(61), hang(0)), (0, [0]))
        self.assertEqual(last(*talked(61, price(5, "2"), price(6, "123"), price(7, "11")), hang(0)), (0, [0]))
        self.assertEqual(last(*talked(61), hang(0), record(0)), (0, [0, 3, 11, 72, 0]))

    def test_the_longest_digits_that_begin_it(self):
        prices = [price(1, []), price(20, "1"), price(300, "12"), price(999, "123")]
        self.assertEqual(last(*talked(0, *prices), hang(0)), (0, [300]))
        self.assertEqual(last(*talked(0, *reversed(prices)), hang(0)), (0, [300]))
        self.assertEqual(last(*talked(0, *prices[:2]), hang(0)), (0, [20]))
        self.assertEqual(last(*talked(0, *prices[:1]), hang(0)), (0, [1]))
        self.assertEqual(last(*talked(0, *prices, price(0, "12")), hang(0)), (0, [0]))

    def test_the_price_as_it_is_told_at_the_hanging_up(self):
        self.assertEqual(last(*talked(61, price(5, "1")), price(8, "1"), hang(0)), (0, [16]))
        self.assertEqual(last(*talked(61), price(8, []), hang(0)), (0, [16]))
        self.assertEqual(last(*talked(61, price(5, "1")), price(9, "12"), hang(0)), (0, [18]))
        self.assertEqual(last(*talked(61, price(5, "1")), hang(0), price(8, "1"), owes(0)), (10, []))
        self.assertEqual(last(*talked(61, price(5, "1")), hang(0), price(8, "1"), record(0)), (0, [0, 3, 11, 72, 10]))

    def test_the_price_of_the_number_that_was_dialed_first(self):
        prices = [price(1, "1"), price(20, "2"), price(300, "3")]
        chain = [begin(4, 4, 4), *prices, number(1, "1"), number(2, "2"), number(3, "3")]
        always = [hand(1, 0, "2"), hand(2, 0, "3"), *dial(0, "1"), lift(3)]
        self.assertEqual(last(*chain, *always, hang(0)), (0, [1]))
        busy = [hand(1, 1, "3"), lift(1), *dial(0, "1"), lift(3)]
        self.assertEqual(last(*chain, *busy, hang(3)), (0, [1]))
        unanswered = [hand(1, 2, "2"), hand(2, 2, "3"), *dial(0, "1"), tick(30), tick(60), lift(3)]
        self.assertEqual(last(*chain, *unanswered, hang(0)), (0, [1]))
        self.assertEqual(last(*chain, group("4", [5]), price(7, "4"), *dial(0, "4"), lift(5), hang(5)), (0, [7]))

    def test_the_price_when_nobody_has_the_number_any_more(self):
        self.assertEqual(last(*talked(0, price(5, "12")), clear(3), hang(0)), (0, [5]))
        self.assertEqual(last(*talked(0, price(5, "12")), clear(3), number(3, "9"), price(1, "9"), hang(0)), (0, [5]))

    def test_others_talk_on(self):
        seen = Watched(begin(2, 3, 2), *[number(line, str(line)) for line in range(6)], price(3, []),
                       *dial(0, "5"), *dial(1, "4"), *dial(2, "3"), lift(5), lift(4))
        before = seen.calls()
        self.assertEqual(seen.do(hang(4)), [0, 3])
        self.assertEqual(seen.states(), [TALKS, TONE, 3, 5, IDLE, TALKS])
        self.assertEqual(seen.calls(), [before[0], before[2]])


class WayIsFree(Kept):
    def town(self):
        return Watched(begin(2, 2, 2), *[number(line, str(line)) for line in range(4)], *dial(0, "2"))

    def test_after_one_that_waits(self):
        seen = self.town()
        self.assertEqual(seen.do(middle(0)), [1, 0, 2])
        seen.do(hang(0))
        self.assertEqual(seen.do(middle(0)), [0])
        self.assertEqual(seen.do(*dial(1, "3")), [WAITS, 0])
        self.assertEqual(seen.do(look(1))[3], 0)

    def test_after_a_talk(self):
        for line in (0, 2):
            seen = self.town()
            seen.do(lift(2), hang(line))
            self.assertEqual(seen.do(middle(0)), [0])
            self.assertEqual(seen.do(*dial(1, "3")), [WAITS, 0])
            self.assertEqual(seen.do(look(1))[3], 0)

    def test_not_before(self):
        for calls in ([], [lift(2)]):
            seen = self.town()
            seen.do(*calls)
            self.assertEqual(seen.do(*dial(1, "3")), [WAITS, 0])
            self.assertEqual(seen.do(look(1))[3], 1)

    def test_as_it_is_answered(self):
        given = ask(*talked(61, price(5, [])), hang(3), look(0), look(3), counts())
        self.assertEqual(given[-4:], [(0, [10]), (4, []), (0, []), (0, [0, 1, 0, 72])])
