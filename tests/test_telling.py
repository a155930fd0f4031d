from calling import (DIALS, IDLE, RINGS, TALKS, TONE, TOP, WAITS, Kept, Watched, ask, begin, clear, counts, dial, digit,
                     group, hand, hang, last, lift, look, middle, number, owes, owner, price, record, tick, town)


def talk(caller, called, end):
    """A call that is lifted at once, till the time at which it ends."""
    return [*dial(caller, f"{called:02d}"), lift(called), tick(end), hang(called), hang(caller)]


class Changeless(Kept):
    def tells(self, seen, call, answer):
        before = seen.picture()
        self.assertEqual(seen.do(call), answer, call)
        self.assertEqual(seen.picture(), before, call)


class Look(Changeless):
    def test_idle(self):
        self.tells(Watched(begin(2, 2, 2)), look(0), [IDLE])
        self.assertEqual(last(begin(2, 2, 2), look(3)), (0, []))

    def test_dials(self):
        seen = Watched(begin(2, 2, 2), number(3, "12345678"), lift(0))
        self.tells(seen, look(0), [DIALS])
        for sign in range(1, 8):
            seen.do(digit(0, sign))
            self.tells(seen, look(0), [DIALS] + list(range(1, sign + 1)))
        self.tells(seen, look(1), [IDLE])

    def test_dials_what_none_begins_any_more(self):
        seen = Watched(begin(2, 2, 2), number(3, "12"), *dial(0, "1"), clear(3))
        self.tells(seen, look(0), [DIALS, 1])

    def test_waits_and_rings(self):
        seen = Watched(*town(2, 2, 2), tick(4), *dial(0, "02"), tick(5), *dial(1, "03"), tick(6))
        self.tells(seen, look(0), [WAITS, 0, 2, 0, 0, 4])
        self.tells(seen, look(2), [RINGS, 0, 2, 0, 0, 4])
        self.tells(seen, look(1), [WAITS, 1, 3, 1, 0, 5])
        self.tells(seen, look(3), [RINGS, 1, 3, 1, 0, 5])

    def test_talks(self):
        seen = Watched(*town(2, 2, 2), tick(4), *dial(3, "01"), tick(9), lift(1), tick(50))
        self.tells(seen, look(3), [TALKS, 3, 1, 0, 0, 4])
        self.tells(seen, look(1), [TALKS, 3, 1, 0, 0, 4])

    def test_the_tone(self):
        seen = Watched(*town(2, 2, 2), *dial(0, "7"), *dial(1, "02"), lift(2), hang(1), lift(3), digit(3, 0))
        self.tells(seen, look(0), [TONE])
        self.tells(seen, look(1), [IDLE])
        self.tells(seen, look(2), [TONE])
        self.tells(seen, look(3), [DIALS, 0])

    def test_how_often_handed_on(self):
        seen = Watched(*town(2, 3, 2), hand(1, 0, "02"), hand(2, 0, "05"), *dial(0, "01"))
        self.tells(seen, look(0), [WAITS, 0, 5, 0, 2, 0])
        self.tells(seen, look(5), [RINGS, 0, 5, 0, 2, 0])
        self.tells(seen, look(1), [IDLE])

    def test_the_way_after_calls_were_moved(self):
        seen = Watched(*town(2, 5, 2), *dial(0, "02"), *dial(1, "04"), lift(4), *dial(6, "08"))
        self.tells(seen, look(0), [WAITS, 0, 2, 0, 0, 0])
        self.tells(seen, look(4), [TALKS, 1, 4, 1, 0, 0])
        self.assertEqual(seen.do(*dial(7, "05")), [WAITS, 2])
        self.tells(seen, look(0), [WAITS, 0, 2, 1, 0, 0])
        self.tells(seen, look(2), [RINGS, 0, 2, 1, 0, 0])
        self.tells(seen, look(1), [TALKS, 1, 4, 0, 0, 0])
        self.tells(seen, look(4), [TALKS, 1, 4, 0, 0, 0])
        self.tells(seen, look(8), [RINGS, 6, 8, 0, 0, 0])
        self.tells(seen, look(7), [WAITS, 7, 5, 1, 0, 0])

    def test_no_such_line(self):
        seen = Watched(begin(2, 2, 2))
        self.refused(seen, look(4), -1)
        self.refused(seen, look(TOP), -1)


class Middle(Changeless):
    def test_none(self):
        seen = Watched(begin(2, 2, 3))
        for switch in range(3):
            self.tells(seen, middle(switch), [0])

    def test_the_first_number_that_there_is_none_of(self):
        for n, r, m in ((1, 1, 1), (2, 2, 3), (8, 8, 16)):
            seen = Watched(begin(n, r, m))
            self.tells(seen, middle(m - 1), [0])
            for switch in (m, m + 1, TOP):
                self.refused(seen, middle(switch), -1)

    def test_the_calls_by_one_switch(self):
        seen = Watched(*town(2, 3, 2), *dial(4, "00"), *dial(1, "02"), *dial(5, "03"), lift(2))
        self.tells(seen, middle(0), [2, 4, 0, 1, 2])
        self.tells(seen, middle(1), [1, 5, 3])
        self.assertEqual(seen.do(lift(3), hang(5)), [0, 0])
        self.tells(seen, middle(1), [0])
        self.assertEqual(last(*town(2, 2, 2), *dial(3, "00"), *dial(1, "02"), middle(0)), (2, [3, 0, 1, 2]))

    def test_as_they_began_to_ring(self):
        """A call that was handed on began to ring anew, so it stands behind the others."""
        seen = Watched(*town(2, 4, 2), hand(2, 2, "04"), *dial(0, "02"), tick(1), *dial(3, "07"))
        self.tells(seen, middle(0), [2, 0, 2, 3, 7])
        seen.do(tick(30))
        self.tells(seen, middle(0), [2, 3, 7, 0, 4])
        # Nor does it count when they began to talk.
        seen.do(lift(4), lift(7))
        self.tells(seen, middle(0), [2, 3, 7, 0, 4])

    def test_after_calls_were_moved(self):
        seen = Watched(*town(2, 5, 2), *dial(0, "02"), *dial(1, "04"), *dial(6, "08"))
        self.tells(seen, middle(0), [2, 0, 2, 6, 8])
        self.tells(seen, middle(1), [1, 1, 4])
        seen.do(*dial(7, "05"))
        self.tells(seen, middle(0), [2, 1, 4, 6, 8])
        self.tells(seen, middle(1), [2, 0, 2, 7, 5])


class Owes(Changeless):
    def test_none_one_and_several_calls(self):
        seen = Watched(*town(2, 2, 2), price(5, []), price(70, "03"))
        self.tells(seen, owes(0), [0])
        seen.do(*talk(0, 2, 10))
        self.tells(seen, owes(0), [5])
        seen.do(*talk(0, 3, 75))
        self.tells(seen, owes(0), [145])
        seen.do(*talk(1, 0, 80))
        self.tells(seen, owes(0), [145])
        self.tells(seen, owes(1), [5])
        self.tells(seen, owes(2), [0])
        self.tells(seen, owes(3), [0])

    def test_while_they_talk_nothing_is_owed_yet(self):
        seen = Watched(*town(2, 2, 2), price(5, []), *dial(0, "02"), lift(2), tick(1000))
        self.tells(seen, owes(0), [0])

    def test_a_call_that_only_rang_costs_nothing(self):
        rang = [*dial(0, "02"), tick(7), hang(0), *dial(1, "02"), tick(70), hang(1)]
        seen = Watched(*town(2, 2, 2), price(5, []), *rang)
        for line in range(4):
            self.tells(seen, owes(line), [0])

    def test_no_such_line(self):
        seen = Watched(begin(2, 2, 2))
        self.refused(seen, owes(4), -1)
        self.refused(seen, owes(TOP), -1)
        self.assertEqual(last(begin(2, 2, 2), owes(3)), (0, []))


class Record(Changeless):
    def test_none(self):
        seen = Watched(*town(2, 2, 2), *dial(0, "02"))
        for place in (0, 1, TOP):
            self.refused(seen, record(place), -3)
        seen.do(lift(2))
        self.refused(seen, record(0), -3)

    def test_one_and_several(self):
        seen = Watched(*town(2, 2, 2), price(5, []), tick(3), *talk(0, 2, 10))
        self.tells(seen, record(0), [0, 0, 2, 3, 10, 5])
        self.refused(seen, record(1), -3)
        seen.do(*talk(3, 1, 75))
        self.tells(seen, record(0), [0, 0, 2, 3, 10, 5])
        self.tells(seen, record(1), [0, 3, 1, 10, 75, 10])
        self.refused(seen, record(2), -3)
        self.refused(seen, record(TOP), -3)

    def test_in_the_order_in_which_they_ended(self):
        seen = Watched(*town(2, 2, 2), *dial(0, "02"), *dial(1, "03"), lift(2), lift(3), tick(9), hang(3), hang(0))
        self.tells(seen, record(0), [0, 1, 3, 0, 9, 0])
        self.tells(seen, record(1), [0, 0, 2, 0, 9, 0])

    def test_since_when_they_talked_not_rang(self):
        seen = Watched(*town(2, 2, 2), tick(5), *dial(0, "02"), tick(15), lift(2), tick(25), hang(0))
        self.tells(seen, record(0), [0, 0, 2, 15, 25, 0])

    def test_a_call_that_only_rang_leaves_none(self):
        seen = Watched(*town(2, 2, 2), *dial(0, "02"), hang(0), *dial(0, "03"), tick(30), hang(0))
        self.refused(seen, record(0), -3)

    def test_as_it_is_answered(self):
        given = ask(*town(2, 2, 2), price(8, []), *talk(0, 3, 61), record(0), record(1))
        self.assertEqual(given[-2:], [(0, [0, 3, 0, 61, 16]), (-3, [])])


class Owner(Changeless):
    def test_a_lines_number(self):
        seen = Watched(begin(2, 2, 2), number(3, "12"), number(0, "34567890"))
        self.tells(seen, owner("12"), [1, 3])
        self.tells(seen, owner("34567890"), [1, 0])
        seen.do(clear(3))
        self.refused(seen, owner("12"), -4)
        self.assertEqual(last(begin(2, 2, 2), number(3, "12"), owner("12")), (1, [3]))

    def test_a_groups_number(self):
        seen = Watched(begin(2, 2, 2), group("12", [3, 0, 1]), group("2", [2]), number(2, "3"))
        self.tells(seen, owner("12"), [2, 3, 0, 1])
        self.tells(seen, owner("2"), [2, 2])
        self.tells(seen, owner("3"), [1, 2])
        self.assertEqual(last(begin(2, 2, 2), group("12", [3, 0]), owner("12")), (2, [3, 0]))

    def test_digits_that_begin_a_number(self):
        seen = Watched(begin(2, 2, 2), number(3, "123"), group("45", [0]))
        for digits in ("1", "12", "4"):
            self.tells(seen, owner(digits), [0])
        self.assertEqual(last(begin(2, 2, 2), number(3, "12"), owner("1")), (0, []))

    def test_digits_that_none_begins_so(self):
        seen = Watched(begin(2, 2, 2), number(3, "123"), group("45", [0]))
        for digits in ("2", "13", "1234", "3", "23", "456", "5", "12345678"):
            self.refused(seen, owner(digits), -4)

    def test_no_digits_at_all(self):
        self.refused(Watched(begin(2, 2, 2)), owner([]), -4)
        self.tells(Watched(begin(2, 2, 2), number(3, "12345678")), owner([]), [0])
        self.tells(Watched(begin(2, 2, 2), group("1", [0])), owner([]), [0])
        self.refused(Watched(begin(2, 2, 2), number(3, "1"), clear(3)), owner([]), -4)

    def test_no_digits_such(self):
        for set_up in ([], [number(3, "12345678"), group("0", [1])]):
            seen = Watched(begin(2, 2, 2), *set_up)
            for digits in ("123456789", [10], [1, 2, 10], [1000], [0] * 20):
                self.refused(seen, owner(digits), -1)


class Counts(Changeless):
    def test_after_none_one_and_several_calls(self):
        seen = Watched(*town(2, 3, 2))
        self.tells(seen, counts(), [0, 0, 0, 0, 0])
        seen.do(*talk(0, 2, 10))
        self.tells(seen, counts(), [0, 0, 1, 0, 10])
        seen.do(*talk(1, 3, 20), *talk(0, 5, 33))
        self.tells(seen, counts(), [0, 0, 3, 0, 33])

    def test_calls_now(self):
        seen = Watched(*town(2, 3, 2), lift(5))
        self.tells(seen, counts(), [0, 0, 0, 0, 0])
        seen.do(*dial(0, "02"))
        self.tells(seen, counts(), [0, 1, 0, 0, 0])
        seen.do(*dial(1, "03"), lift(3))
        self.tells(seen, counts(), [0, 2, 0, 0, 0])
        seen.do(hang(3))
        self.tells(seen, counts(), [0, 1, 1, 0, 0])
        seen.do(hang(0))
        self.tells(seen, counts(), [0, 0, 1, 0, 0])

    def test_moved_in_all(self):
        seen = Watched(*town(2, 5, 2))
        for times in (1, 2, 3):
            seen.do(*dial(0, "02"), *dial(1, "04"), *dial(6, "08"))
            self.assertEqual(seen.do(*dial(7, "05")), [WAITS, 2])
            self.tells(seen, counts(), [0, 4, 0, 2 * times, 0])
            seen.do(hang(0), hang(1), hang(6), hang(7))
            self.tells(seen, counts(), [0, 0, 0, 2 * times, 0])
