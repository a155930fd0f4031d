from calling import (IDLE, RINGS, TALKS, TONE, WAITS, Kept, Watched, ask, begin, clear, counts, dial, group, hand, hang,
                     last, lift, look, middle, number, owes, price, record, tick, town, wait)


class Time(Kept):
    def test_later(self):
        seen = Watched(begin(2, 2, 2))
        for time in (1, 2, 100, 1099511627775):
            self.assertEqual(seen.do(tick(time)), [0, 0])
            self.assertEqual(seen.do(counts()), [0, 0, 0, 0, time])

    def test_now(self):
        seen = Watched(begin(2, 2, 2))
        self.assertEqual(seen.do(tick(0)), [0, 0])
        self.assertEqual(seen.do(tick(9)), [0, 0])
        before = seen.picture()
        self.assertEqual(seen.do(tick(9)), [0, 0])
        self.assertEqual(seen.picture(), before)

    def test_before_now(self):
        seen = Watched(begin(2, 2, 2), number(1, "1"), tick(50), *dial(0, "1"), tick(60))
        for time in (0, 30, 59):
            self.refused(seen, tick(time), -5)
        self.refused(Watched(begin(1, 1, 1), tick(1)), tick(0), -5)

    def test_as_it_is_answered(self):
        self.assertEqual(ask(begin(1, 1, 1), tick(3), tick(2), counts())[1:], [(0, [0]), (-5, []), (0, [0, 0, 0, 3])])

    def test_lines_in_no_call_stay_as_they_are(self):
        seen = Watched(begin(2, 2, 2), number(3, "12"), *dial(0, "1"), *dial(1, "3"), tick(1000000))
        self.assertEqual(seen.do(look(0)), [1, 1])
        self.assertEqual(seen.do(look(1)), [TONE])
        self.assertEqual(seen.do(look(2)), [IDLE])


class TheWait(Kept):
    def test_the_wait_is_30_at_first(self):
        for time, states in ((29, (WAITS, RINGS)), (30, (TONE, IDLE)), (31, (TONE, IDLE)), (5000, (TONE, IDLE))):
            seen = Watched(begin(1, 2, 1), number(1, "1"), *dial(0, "1"))
            self.assertEqual(seen.do(tick(time)), [0, 0])
            self.assertEqual(tuple(seen.states()), states, time)

    def test_one_less_than_the_wait_the_wait_and_longer(self):
        for long in (1, 2, 10, 1000):
            for more in (-1, 0, 1):
                seen = Watched(begin(1, 2, 1), number(1, "1"), wait(long), tick(77), *dial(0, "1"))
                self.assertEqual(seen.do(tick(77 + long + more)), [0, 0])
                self.assertEqual(seen.states(), [WAITS, RINGS] if more < 0 else [TONE, IDLE], (long, more))

    def test_what_counts_is_since_when_it_rings(self):
        seen = Watched(begin(1, 2, 1), number(1, "1"), tick(20), *dial(0, "1"), tick(30), tick(49))
        self.assertEqual(seen.states(), [WAITS, RINGS])
        self.assertEqual(seen.do(look(0)), [WAITS, 0, 1, 0, 0, 20])
        seen.do(tick(50))
        self.assertEqual(seen.states(), [TONE, IDLE])

    def test_the_wait_as_it_is_told_when_time_passes(self):
        seen = Watched(begin(1, 2, 1), number(1, "1"), *dial(0, "1"), tick(20), wait(20))
        self.assertEqual(seen.states(), [WAITS, RINGS])
        self.assertEqual(seen.do(tick(20)), [0, 0])
        self.assertEqual(seen.states(), [TONE, IDLE])
        seen = Watched(begin(1, 2, 1), number(1, "1"), *dial(0, "1"), wait(100), tick(99))
        self.assertEqual(seen.states(), [WAITS, RINGS])

    def test_its_way_is_free_and_the_line_can_be_called(self):
        seen = Watched(*town(2, 2, 2), *dial(0, "02"), tick(30))
        self.assertEqual(seen.do(middle(0)), [0])
        self.assertEqual(seen.do(counts()), [0, 0, 0, 0, 30])
        self.assertEqual(seen.do(*dial(1, "02")), [WAITS, 0])
        self.assertEqual(seen.do(look(2)), [RINGS, 1, 2, 0, 0, 30])

    def test_it_leaves_no_record_and_costs_nothing(self):
        seen = Watched(*town(2, 2, 2), price(9, []), *dial(0, "02"), tick(30), hang(0))
        self.assertEqual(seen.do(record(0)), [-3])
        self.assertEqual(seen.do(owes(0)), [0])
        self.assertEqual(seen.do(owes(2)), [0])

    def test_a_call_that_talks_goes_on(self):
        seen = Watched(*town(2, 2, 2), hand(2, 2, "03"), *dial(0, "02"), tick(29), lift(2))
        for time in (30, 59, 100000):
            self.assertEqual(seen.do(tick(time)), [0, 0])
            self.assertEqual(seen.states(), [TALKS, IDLE, TALKS, IDLE])
            self.assertEqual(seen.do(look(2)), [TALKS, 0, 2, 0, 0, 0])

    def test_only_those_that_rang_so_long(self):
        seen = Watched(*town(3, 2, 3), *dial(0, "03"), tick(1), *dial(1, "04"), tick(2), *dial(2, "05"), tick(31))
        self.assertEqual(seen.states(), [TONE, TONE, WAITS, IDLE, IDLE, RINGS])
        seen.do(tick(32))
        self.assertEqual(seen.states(), [TONE, TONE, TONE, IDLE, IDLE, IDLE])


class HandedOnUnanswered(Kept):
    def test_to_a_line(self):
        seen = Watched(*town(2, 2, 2), hand(2, 2, "03"), tick(5), *dial(0, "02"))
        self.assertEqual(seen.do(tick(34)), [0, 0])
        self.assertEqual(seen.do(look(0)), [WAITS, 0, 2, 0, 0, 5])
        self.assertEqual(seen.do(tick(40)), [0, 0])
        self.assertEqual(seen.states(), [WAITS, IDLE, IDLE, RINGS])
        self.assertEqual(seen.do(look(0)), [WAITS, 0, 3, 0, 1, 40])
        self.assertEqual(seen.do(look(3)), [RINGS, 0, 3, 0, 1, 40])
        self.assertEqual(seen.do(counts()), [0, 1, 0, 0, 40])

    def test_it_rings_anew_from_now(self):
        seen = Watched(*town(2, 2, 2), hand(2, 2, "03"), *dial(0, "02"), tick(500))
        self.assertEqual(seen.states(), [WAITS, IDLE, IDLE, RINGS])
        seen.do(tick(500), tick(529))
        self.assertEqual(seen.states(), [WAITS, IDLE, IDLE, RINGS])
        seen.do(tick(530))
        self.assertEqual(seen.states(), [TONE, IDLE, IDLE, IDLE])

    def test_handed_on_otherwise_is_not_this(self):
        seen = Watched(*town(2, 2, 2), *dial(0, "02"), hand(2, 0, "03"), hand(2, 1, "03"), tick(30))
        self.assertEqual(seen.states(), [TONE, IDLE, IDLE, IDLE])

    def test_of_the_line_that_rang_and_not_of_who_called(self):
        seen = Watched(*town(2, 2, 2), hand(0, 2, "03"), *dial(0, "02"), tick(30))
        self.assertEqual(seen.states(), [TONE, IDLE, IDLE, IDLE])
        seen = Watched(*town(2, 2, 2), hand(2, 0, "03"), hand(2, 2, "01"), *dial(0, "02"), tick(30))
        self.assertEqual(seen.states(), [TONE, IDLE, IDLE, IDLE])

    def test_as_it_is_told_when_time_passes(self):
        seen = Watched(*town(2, 2, 2), hand(2, 2, "01"), *dial(0, "02"), hand(2, 2, "03"), tick(30))
        self.assertEqual(seen.states(), [WAITS, IDLE, IDLE, RINGS])
        seen = Watched(*town(2, 2, 2), hand(2, 2, "01"), *dial(0, "02"), hand(2, 2, []), tick(30))
        self.assertEqual(seen.states(), [TONE, IDLE, IDLE, IDLE])

    def test_to_a_group(self):
        set_up = [*town(2, 3, 2), group("9", [0, 4, 5]), hand(2, 2, "9"), *dial(0, "02")]
        seen = Watched(*set_up, tick(30))
        self.assertEqual(seen.do(look(0)), [WAITS, 0, 4, 0, 1, 30])
        seen = Watched(*set_up, lift(4), tick(30))
        self.assertEqual(seen.do(look(0)), [WAITS, 0, 5, 0, 1, 30])
        seen = Watched(*set_up, lift(4), lift(5), tick(30))
        self.assertEqual(seen.do(look(0)), [TONE])

    def test_of_a_groups_line(self):
        set_up = [*town(2, 3, 2), group("9", [1, 2]), hand(1, 2, "05"), hand(2, 2, "04")]
        seen = Watched(*set_up, *dial(0, "9"), tick(30))
        self.assertEqual(seen.do(look(0)), [WAITS, 0, 5, 0, 1, 30])
        seen = Watched(*set_up, lift(1), *dial(0, "9"), tick(30))
        self.assertEqual(seen.do(look(0)), [WAITS, 0, 4, 0, 1, 30])
        seen = Watched(*set_up, hand(1, 2, []), *dial(0, "9"), tick(30))
        self.assertEqual(seen.states(), [TONE] + [IDLE] * 5)

    def test_to_the_group_that_it_is_in(self):
        seen = Watched(*town(2, 3, 2), group("9", [1, 2]), hand(1, 2, "9"), *dial(0, "9"), tick(30))
        self.assertEqual(seen.do(look(0)), [WAITS, 0, 1, 0, 1, 30])

    def test_to_a_number_that_nobody_has(self):
        for digits in ("7", "0", "033"):
            seen = Watched(*town(2, 2, 2), hand(2, 2, digits), *dial(0, "02"), tick(30))
            self.assertEqual(seen.states(), [TONE, IDLE, IDLE, IDLE])
            self.assertEqual(seen.do(counts()), [0, 0, 0, 0, 30])
        seen = Watched(*town(2, 2, 2), hand(2, 2, "03"), *dial(0, "02"), clear(3), tick(30))
        self.assertEqual(seen.states(), [TONE, IDLE, IDLE, IDLE])

    def test_to_the_caller(self):
        seen = Watched(*town(2, 2, 2), hand(2, 2, "00"), *dial(0, "02"), tick(30))
        self.assertEqual(seen.states(), [TONE, IDLE, IDLE, IDLE])
        seen = Watched(*town(2, 2, 2), hand(2, 2, "00"), hand(0, 1, "03"), *dial(0, "02"), tick(30))
        self.assertEqual(seen.do(look(0)), [WAITS, 0, 3, 0, 2, 30])
        seen = Watched(*town(2, 2, 2), hand(2, 2, "00"), hand(0, 0, "01"), *dial(0, "02"), tick(30))
        self.assertEqual(seen.do(look(0)), [WAITS, 0, 1, 0, 2, 30])

    def test_to_the_line_that_rang(self):
        seen = Watched(*town(2, 2, 2), hand(2, 2, "02"), *dial(0, "02"))
        for times in range(1, 6):
            self.assertEqual(seen.do(tick(30 * times)), [0, 0])
            self.assertEqual(seen.do(look(2)), [RINGS, 0, 2, 0, times, 30 * times])
        seen.do(tick(180))
        self.assertEqual(seen.states(), [TONE, IDLE, IDLE, IDLE])

    def test_to_a_line_that_is_not_idle(self):
        seen = Watched(*town(2, 3, 2), hand(2, 2, "03"), lift(3), *dial(0, "02"), tick(30))
        self.assertEqual(seen.do(look(0)), [TONE])
        seen = Watched(*town(2, 3, 2), hand(2, 2, "03"), hand(3, 1, "04"), lift(3), *dial(0, "02"), tick(30))
        self.assertEqual(seen.do(look(0)), [WAITS, 0, 4, 0, 2, 30])

    def test_the_fifth_and_the_sixth_time(self):
        hands = [hand(line, 2, f"{line + 1:02d}") for line in range(1, 7)]
        seen = Watched(*town(2, 4, 2), *hands, *dial(0, "01"))
        for times in range(1, 6):
            self.assertEqual(seen.do(tick(30 * times)), [0, 0])
            self.assertEqual(seen.do(look(0)), [WAITS, 0, 1 + times, 0, times, 30 * times])
        self.assertEqual(seen.do(tick(180)), [0, 0])
        self.assertEqual(seen.states(), [TONE] + [IDLE] * 7)

    def test_the_fifth_and_the_sixth_time_counted_with_the_others(self):
        # Twice always, ahead of the first ringing; then once unanswered and twice or thrice always.
        chain = [hand(1, 0, "02"), hand(2, 0, "03"), hand(3, 2, "04"), hand(4, 0, "05"), hand(5, 0, "06")]
        seen = Watched(*town(2, 4, 2), *chain, *dial(0, "01"))
        self.assertEqual(seen.do(look(0)), [WAITS, 0, 3, 0, 2, 0])
        seen.do(tick(30))
        self.assertEqual(seen.do(look(0)), [WAITS, 0, 6, 0, 5, 30])
        seen = Watched(*town(2, 4, 2), *chain, hand(6, 0, "07"), *dial(0, "01"), tick(30))
        self.assertEqual(seen.states(), [TONE] + [IDLE] * 7)

    def test_the_sixth_time_to_a_group(self):
        set_up = [*town(2, 4, 2), group("9", [7]), hand(2, 2, "02"), *dial(0, "02")]
        set_up += [tick(30 * times) for times in range(1, 5)]
        self.assertEqual(last(*set_up, hand(2, 2, "9"), tick(150), look(0)), (WAITS, [0, 7, 0, 5, 150]))
        self.assertEqual(last(*set_up, tick(150), hand(2, 2, "9"), tick(180), look(0)), (TONE, []))

    def test_who_called_can_hang_up_then(self):
        seen = Watched(*town(2, 2, 2), price(9, []), hand(2, 2, "03"), *dial(0, "02"), tick(30))
        self.assertEqual(seen.do(hang(0)), [0])
        self.assertEqual(seen.states(), [IDLE] * 4)
        self.assertEqual(seen.do(middle(0)), [0])

    def test_the_line_that_it_was_handed_on_to_talks(self):
        seen = Watched(*town(2, 2, 2), price(2, []), hand(2, 2, "03"), *dial(0, "02"), tick(30), tick(40), lift(3))
        self.assertEqual(seen.do(look(0)), [TALKS, 0, 3, 0, 1, 30])
        self.assertEqual(seen.do(tick(101), hang(0)), [0, 4])
        self.assertEqual(seen.do(record(0)), [0, 0, 3, 40, 101, 4])


class SeveralAtOnce(Kept):
    def test_in_the_order_in_which_they_began_to_ring(self):
        """Two are handed on to one line: it rings for the call that began to ring first."""
        hands = [hand(2, 2, "05"), hand(3, 2, "05")]
        seen = Watched(*town(2, 3, 2), *hands, *dial(0, "02"), *dial(1, "03"), tick(30))
        self.assertEqual(seen.states(), [WAITS, TONE, IDLE, IDLE, IDLE, RINGS])
        seen = Watched(*town(2, 3, 2), *hands, *dial(1, "03"), *dial(0, "02"), tick(30))
        self.assertEqual(seen.states(), [TONE, WAITS, IDLE, IDLE, IDLE, RINGS])

    def test_each_is_done_with_before_the_one_behind_it(self):
        """The line that rings for the second call is not idle yet when the first is handed on to it."""
        seen = Watched(*town(2, 2, 2), hand(2, 2, "03"), *dial(0, "02"), *dial(1, "03"), tick(30))
        self.assertEqual(seen.states(), [TONE, TONE, IDLE, IDLE])
        seen = Watched(*town(2, 2, 2), hand(2, 2, "03"), *dial(1, "03"), *dial(0, "02"), tick(30))
        self.assertEqual(seen.states(), [WAITS, TONE, IDLE, RINGS])

    def test_two_change_places(self):
        set_up = [*town(2, 2, 2), hand(2, 2, "03"), hand(3, 2, "02"), *dial(0, "02"), *dial(1, "03")]
        seen = Watched(*set_up, tick(30))
        self.assertEqual(seen.states(), [TONE, WAITS, RINGS, IDLE])
        self.assertEqual(seen.do(look(2)), [RINGS, 1, 2, 0, 1, 30])

    def test_a_call_that_was_handed_on_comes_behind_the_others(self):
        """Handed on at 30, so at 60 it is the later one of two, though who called it called first."""
        hands = [hand(3, 2, "04"), hand(4, 2, "08"), hand(5, 2, "08")]
        seen = Watched(*town(3, 3, 3), *hands, *dial(0, "03"), tick(29), *dial(1, "05"), tick(30))
        self.assertEqual(seen.do(look(0)), [WAITS, 0, 4, 0, 1, 30])
        self.assertEqual(seen.calls(), [(1, 5, 1), (0, 4, 0)])
        seen.do(tick(60))
        self.assertEqual(seen.do(look(0)), [TONE])
        self.assertEqual(seen.do(look(1))[:3], [WAITS, 1, 8])


class MovedByTime(Kept):
    def crowded(self):
        """The call from 7 to 9 rings where a way is free; handed on to line 5 two others must be moved."""
        seen = Watched(*town(2, 5, 2), *dial(0, "02"), *dial(1, "04"), *dial(6, "08"), lift(2), lift(4), lift(8),
                       hand(9, 2, "05"), *dial(7, "09"))
        self.assertEqual(seen.calls(), [(0, 2, 0), (1, 4, 1), (6, 8, 0), (7, 9, 1)])
        return seen

    def test_how_many_were_moved(self):
        seen = self.crowded()
        self.assertEqual(seen.do(tick(29)), [0, 0])
        self.assertEqual(seen.do(tick(30)), [0, 2])
        self.assertEqual(seen.calls(), [(0, 2, 1), (1, 4, 0), (6, 8, 0), (7, 5, 1)])
        self.assertEqual(seen.do(counts()), [0, 4, 0, 2, 30])
        self.assertEqual(seen.do(tick(31)), [0, 0])

    def test_who_is_moved_talks_on(self):
        seen = self.crowded()
        seen.do(tick(30))
        self.assertEqual(seen.states(), [TALKS, TALKS, TALKS, IDLE, TALKS, RINGS, TALKS, WAITS, TALKS, IDLE])
        self.assertEqual(seen.do(look(0)), [TALKS, 0, 2, 1, 0, 0])
        self.assertEqual(seen.do(look(4)), [TALKS, 1, 4, 0, 0, 0])
        self.assertEqual(seen.do(hang(4)), [0, 0])
        self.assertEqual(seen.do(record(0)), [0, 1, 4, 0, 30, 0])

    def test_its_own_way_is_free_before_the_next_is_sought(self):
        """With one middle switch the call could not be put on a way while its old one was taken."""
        seen = Watched(*town(1, 3, 1), hand(1, 2, "02"), *dial(0, "01"))
        self.assertEqual(seen.do(tick(30)), [0, 0])
        self.assertEqual(seen.do(middle(0)), [1, 0, 2])

    def test_those_of_several_calls_are_counted_together(self):
        seen = Watched(*town(2, 8, 2))
        for caller, called in ((13, 5), (0, 12), (7, 8)):
            seen.do(*dial(caller, f"{called:02d}"), lift(called))
        seen.do(*dial(1, "11"), *dial(6, "15"), hand(11, 2, "14"), hand(15, 2, "04"))
        self.assertEqual(seen.calls(), [(13, 5, 0), (0, 12, 0), (7, 8, 0), (1, 11, 1), (6, 15, 1)])
        # The first moves the second, which still rings, and the one from 7; the second moves the one from 13.
        self.assertEqual(seen.do(tick(30)), [0, 3])
        self.assertEqual(seen.calls(), [(13, 5, 1), (0, 12, 0), (7, 8, 1), (1, 14, 1), (6, 4, 0)])
        self.assertEqual(seen.do(counts()), [0, 5, 0, 3, 30])
