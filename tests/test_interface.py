import random
import unittest

from calling import (LATER_CALLS, TOP, Watched, begin, clear, dial, digit, flat, group, hand, last, lift, number, price,
                     row, split_up, wait)

from townexchange.exchange import answers
from townexchange.numbering import begins, numbers_there


class Sealed(list):
    """A list that tells of every try to change it."""

    def sealed(self, *what, **more):
        raise AssertionError("what is handed in was changed")

    append = extend = insert = pop = remove = reverse = sort = clear = sealed
    __setitem__ = __delitem__ = __iadd__ = __imul__ = sealed


class Layout(unittest.TestCase):
    def test_the_answers_one_behind_another(self):
        calls = [begin(2, 2, 2), number(1, "12"), lift(0), digit(0, 1), digit(0, 2), lift(0), lift(9)]
        wanted = [2, 4, 0, 2, 0, 0, 2, 1, 0, 3, 1, 1, 0, 3, 3, 1, 0, 2, -5, 0, 2, -1, 0]
        self.assertEqual(answers(flat(calls)), wanted)

    def test_a_refusal_has_a_0_behind_it(self):
        self.assertEqual(answers([8, 0]), [2, -2, 0])
        self.assertEqual(answers([1, 0, 0, 0, 17]), [2, -1, 0, 2, -2, 0])
        self.assertEqual(answers(flat([begin(1, 1, 1), lift(0), digit(0, 10)])), [2, 1, 0, 2, 1, 0, 2, -1, 0])

    def test_rows_are_read_whole(self):
        twenty = list(range(1000, 980, -1))
        for call in (number(0, twenty), group(twenty, twenty), group("1", twenty), group([], []), price(1, twenty),
                     hand(0, 0, twenty)):
            self.assertEqual(split_up(answers(flat([begin(1, 2, 1), call, lift(1)])))[1:], [(-1, []), (1, [])])

    def test_the_calls_behind_a_later_one_are_read(self):
        for call in LATER_CALLS + [[16] + row([]), [16] + row([8] * 20)]:
            given = split_up(answers(flat([begin(2, 2, 2), call, lift(1), number(0, "1"), lift(1)])))
            self.assertEqual(len(given), 5, call)
            self.assertEqual(given[2:], [(1, []), (0, []), (-5, [])], call)

    def test_what_is_handed_in_is_not_changed(self):
        calls = flat([begin(2, 2, 2), number(1, "12"), group("3", [2, 3]), price(5, "1"), hand(1, 0, "3"), wait(3),
                      *dial(0, "12"), clear(1), *LATER_CALLS])
        kept = list(calls)
        given = answers(Sealed(calls))
        self.assertEqual(answers(calls), given)
        self.assertEqual(calls, kept)

    def test_nothing_is_kept_from_one_time_to_the_next(self):
        calls = flat([begin(2, 2, 2), number(1, "12"), hand(1, 0, "3"), price(1, "1"), group("3", [3]), *dial(0, "12")])
        given = answers(calls)
        kept = list(given)
        self.assertEqual(answers([8, 0]), [2, -2, 0])
        again = answers(calls)
        self.assertEqual(again, kept)
        again.append(1)
        self.assertEqual(given, kept)
        self.assertEqual(answers(calls), kept)

    def test_four_hundred_calls(self):
        calls = [begin(8, 8, 8)] + [group([8] * 20, [1000] * 20)] * 381 + [number(63, "1")] + dial(0, "1")
        calls += [price(TOP, [])] * (400 - len(calls))
        given = split_up(answers(flat(calls)))
        self.assertEqual(len(given), 400)
        self.assertEqual(given[383:386], [(1, []), (3, [0]), (-1, [])])


def some_digits(chance):
    many = chance.choice([0, 1, 1, 1, 2, 2, 2, 3, 8, 9])
    return [chance.choice([0, 1, 2, 3, 3, 3, 10]) if chance.random() < 0.2 else chance.randint(0, 3)
            for place in range(many)]


def some_call(chance, lines):
    line = chance.randint(0, lines)
    return chance.choice([
        lambda: number(line, some_digits(chance)),
        lambda: number(line, some_digits(chance)),
        lambda: clear(line),
        lambda: group(some_digits(chance), [chance.randint(0, lines) for place in range(chance.randint(0, 4))]),
        lambda: price(chance.choice([0, 5, 1000, 1001]), some_digits(chance)),
        lambda: hand(line, chance.randint(0, 3), some_digits(chance)),
        lambda: wait(chance.choice([0, 1, 30, 1000, 1001])),
        lambda: lift(line),
        lambda: lift(line),
        lambda: digit(line, chance.choice([0, 1, 2, 3, 10])),
        lambda: digit(line, chance.choice([0, 1, 2, 3])),
        lambda: digit(line, chance.choice([0, 1, 2, 3])),
        lambda: chance.choice(LATER_CALLS),
        lambda: begin(chance.randint(0, 9), chance.randint(0, 9), chance.randint(0, 17))
        if chance.random() < 0.05 else lift(line),
    ])()


class Promises(unittest.TestCase):
    def check(self, exchange):
        numbers = numbers_there(exchange)
        for place, one in enumerate(numbers):
            self.assertFalse([other for other in numbers[:place] + numbers[place + 1:] if begins(one, other)])
        in_calls = [line for call in exchange.calls for line in (call.caller, call.called)]
        self.assertEqual(len(set(in_calls)), len(in_calls))
        for place, line in enumerate(exchange.lines):
            self.assertEqual(line.state in (2, 3, 5), place in in_calls)
            self.assertEqual(line.call is not None, place in in_calls)
        for call in exchange.calls:
            self.assertLessEqual(call.handed_on, 5)
            self.assertIn((exchange.lines[call.caller].state, exchange.lines[call.called].state), [(3, 5), (2, 2)])

    def test_whatever_is_called(self):
        chance = random.Random(2)
        reached = {}
        for turn in range(120):
            n, r = chance.randint(1, 4), chance.randint(1, 5)
            m = n if chance.random() < 0.7 else 16
            calls = [begin(n, r, m)]
            seen = Watched(*calls)
            for step in range(200):
                call = some_call(chance, n * r)
                calls.append(call)
                before = seen.picture()
                answer = seen.do(call)
                reached[(call[0], answer[0])] = True
                if answer[0] < 0:
                    self.assertEqual(seen.picture(), before, call)
                self.check(seen.exchange)
            self.assertEqual(last(*calls), (answer[0], answer[1:]))
        wanted = [(2, 0), (2, -1), (2, -5), (2, -6), (3, 0), (3, -1), (3, -3), (4, 0), (4, -1), (4, -6), (5, 0),
                  (5, -1), (6, 0), (6, -1), (7, 0), (7, -1), (8, 1), (8, 2), (8, -1), (8, -5), (9, 1), (9, 3),
                  (9, 4), (9, -1), (9, -5)]
        self.assertEqual([pair for pair in wanted if pair not in reached], [])
