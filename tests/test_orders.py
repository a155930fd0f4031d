from calling import TOP, Kept, Watched, begin, clear, digit, group, hand, last, lift, number, price, wait

from townexchange.numbering import price_of

NO_NUMBERS = [[], "123456789", [10], [1, 2, 10], [1000], [0] * 20]
NO_DIGITS = ["123456789", [10], [1, 2, 10], [1000], [0] * 20]


class Number(Kept):
    def test_from_one_digit_to_eight(self):
        for digits in ("0", "9", "12", "12345678", "00000000"):
            seen = Watched(begin(2, 2, 2))
            self.granted(seen, number(3, digits))
            self.assertEqual(seen.exchange.lines[3].number, [int(sign) for sign in digits])

    def test_no_number(self):
        for digits in NO_NUMBERS:
            self.refused(Watched(begin(2, 2, 2)), number(0, digits), -1)

    def test_a_line_that_has_one(self):
        seen = Watched(begin(2, 2, 2), number(0, "12"))
        for digits in ("12", "3", "1"):
            self.refused(seen, number(0, digits), -5)

    def test_no_number_begins_another(self):
        seen = Watched(begin(2, 2, 2), number(0, "123"), group("45", [0]))
        for digits in ("1", "12", "123", "1234", "4", "45", "456", "45678901"):
            self.refused(seen, number(1, digits), -6)
        for line, digits in ((1, "122"), (2, "44"), (3, "5")):
            self.granted(seen, number(line, digits))

    def test_which_refusal_counts(self):
        seen = Watched(begin(2, 2, 2), number(0, "12"), number(1, "3"))
        self.refused(seen, number(4, []), -1)
        self.refused(seen, number(0, []), -1)
        self.refused(seen, number(0, [10]), -1)
        self.refused(seen, number(0, "3"), -5)
        self.refused(seen, number(2, "3"), -6)


class Clear(Kept):
    def test_it_has_none_then(self):
        seen = Watched(begin(2, 2, 2), number(0, "12"))
        self.granted(seen, clear(0))
        self.refused(seen, clear(0), -3)
        self.granted(seen, number(1, "1"))
        self.granted(seen, number(0, "22"))

    def test_it_has_none_already(self):
        self.refused(Watched(begin(2, 2, 2), number(0, "12")), clear(1), -3)
        self.refused(Watched(begin(2, 2, 2), group("12", [1])), clear(1), -3)

    def test_no_such_line(self):
        self.refused(Watched(begin(2, 2, 2), number(0, "12")), clear(4), -1)

    def test_a_call_on_the_number_goes_on(self):
        seen = Watched(begin(2, 2, 2), number(0, "1"), lift(1), digit(1, 1), clear(0))
        self.assertEqual(seen.calls(), [(1, 0, 0)])
        self.assertEqual(seen.exchange.calls[0].number, [1])
        self.assertEqual(seen.do(lift(0)), [2])


class Group(Kept):
    def test_one_line_to_eight(self):
        seen = Watched(begin(3, 3, 3))
        self.granted(seen, group("1", [8]))
        self.granted(seen, group("22222222", [7, 6, 5, 4, 3, 2, 1, 0]))
        self.granted(seen, group("3", [0, 8]))
        self.assertEqual(seen.exchange.groups[1].members, [7, 6, 5, 4, 3, 2, 1, 0])

    def test_no_number(self):
        for digits in NO_NUMBERS:
            self.refused(Watched(begin(2, 2, 2)), group(digits, [0]), -1)

    def test_lines_that_are_none(self):
        seen = Watched(begin(3, 3, 3))
        for lines in ([], [0, 1, 2, 3, 4, 5, 6, 7, 8], [9], [0, 9], [1000], [0, 0], [1, 2, 3, 1], [0] * 20):
            self.refused(seen, group("1", lines), -1)

    def test_no_number_begins_another(self):
        seen = Watched(begin(2, 2, 2), number(0, "123"), group("45", [0]))
        for digits in ("1", "123", "1234", "4", "45", "456"):
            self.refused(seen, group(digits, [1]), -6)
        self.granted(seen, group("46", [1]))

    def test_the_ninth(self):
        seen = Watched(begin(2, 2, 2))
        for sign in "01234567":
            self.granted(seen, group(sign, [0]))
        self.refused(seen, group("8", [0]), -9)
        self.granted(seen, number(0, "8"))

    def test_which_refusal_counts(self):
        seen = Watched(begin(2, 2, 2), *[group(sign, [0]) for sign in "01234567"])
        self.refused(seen, group("0", []), -1)
        self.refused(seen, group("0", [4]), -1)
        self.refused(seen, group("0", [1, 1]), -1)
        self.refused(seen, group([], [0]), -1)
        self.refused(seen, group("0", [0]), -6)
        self.refused(seen, group("8", [4]), -1)
        self.refused(seen, group("8", [0]), -9)


class Price(Kept):
    def test_cents_to_a_thousand(self):
        seen = Watched(begin(2, 2, 2))
        for cents in (0, 1, 1000):
            self.granted(seen, price(cents, "1"))
            self.assertEqual(price_of(seen.exchange, [1]), cents)
        for cents in (1001, TOP):
            self.refused(seen, price(cents, "1"), -1)

    def test_no_digits_such(self):
        for digits in NO_DIGITS:
            self.refused(Watched(begin(2, 2, 2)), price(1, digits), -1)

    def test_none_and_eight_are_fine(self):
        seen = Watched(begin(2, 2, 2))
        self.granted(seen, price(3, []))
        self.granted(seen, price(4, "12345678"))

    def test_the_seventeenth(self):
        seen = Watched(begin(2, 2, 2), price(0, []))
        for place in range(15):
            self.granted(seen, price(place, str(10 + place)))
        self.refused(seen, price(1, "9"), -9)
        self.refused(seen, price(1, "1"), -9)
        self.refused(seen, price(1001, "9"), -1)
        self.refused(seen, price(1, [10]), -1)
        self.granted(seen, price(77, "10"))
        self.granted(seen, price(78, []))
        self.refused(seen, price(1, "9"), -9)
        self.assertEqual(price_of(seen.exchange, [1, 0]), 77)
        self.assertEqual(price_of(seen.exchange, [9]), 78)

    def test_the_longest_digits_count(self):
        seen = Watched(begin(2, 2, 2), price(9, "123"), price(5, "1"), price(0, "12"))
        for digits, cents in (("1", 5), ("11", 5), ("12", 0), ("122", 0), ("123", 9), ("12345678", 9), ("2", 0)):
            self.assertEqual(price_of(seen.exchange, [int(sign) for sign in digits]), cents, digits)
        seen.do(price(2, []))
        self.assertEqual(price_of(seen.exchange, [2]), 2)
        self.assertEqual(price_of(seen.exchange, [1]), 5)
        self.assertEqual(price_of(seen.exchange, [1, 2]), 0)


class Hand(Kept):
    def test_each_case_by_itself(self):
        seen = Watched(begin(2, 2, 2))
        self.granted(seen, hand(3, 0, "1"))
        self.granted(seen, hand(3, 1, "12345678"))
        self.granted(seen, hand(3, 2, "3"))
        self.assertEqual(seen.exchange.lines[3].hands, [[1], [1, 2, 3, 4, 5, 6, 7, 8], [3]])
        self.granted(seen, hand(3, 1, []))
        self.granted(seen, hand(3, 0, "9"))
        self.assertEqual(seen.exchange.lines[3].hands, [[9], [], [3]])
        self.assertEqual(seen.exchange.lines[2].hands, [[], [], []])

    def test_with_no_digits_it_is_not(self):
        set_up = [begin(2, 2, 2), number(0, "1"), number(2, "2"), hand(0, 0, "2"), hand(0, 0, []), lift(1)]
        self.assertEqual(Watched(*set_up, digit(1, 1)).calls(), [(1, 0, 0)])

    def test_none_such(self):
        seen = Watched(begin(2, 2, 2), hand(0, 0, "1"))
        self.refused(seen, hand(4, 0, "1"), -1)
        for when in (3, 4, TOP):
            self.refused(seen, hand(0, when, "1"), -1)
            self.refused(seen, hand(0, when, []), -1)
        for digits in NO_DIGITS:
            for when in (0, 1, 2):
                self.refused(seen, hand(0, when, digits), -1)


class Wait(Kept):
    def test_one_to_a_thousand(self):
        seen = Watched(begin(2, 2, 2))
        for time in (1, 2, 1000):
            self.granted(seen, wait(time))
            self.assertEqual(seen.exchange.wait, time)
        for time in (0, 1001, TOP):
            self.refused(seen, wait(time), -1)
        self.assertEqual(seen.exchange.wait, 1000)

    def test_as_it_is_answered(self):
        self.assertEqual(last(begin(1, 1, 1), wait(1)), (0, []))
        self.assertEqual(last(begin(1, 1, 1), wait(0)), (-1, []))
