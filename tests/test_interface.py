import unittest

from calling import (ONE_OF_EACH, TOP, begin, clear, counts, dial, digit, flat, group, hand, hang, lift, look, middle,
                     number, owes, owner, price, record, split_up, tick, wait)

from townexchange.exchange import answers


class Sealed(list):
    """A list that tells of every try to change it."""

    def sealed(self, *what, **more):
        raise AssertionError("what is handed in was changed")

    append = extend = insert = pop = remove = reverse = sort = clear = sealed
    __setitem__ = __delitem__ = __iadd__ = __imul__ = sealed


class Layout(unittest.TestCase):
    def test_the_answers_one_behind_another(self):
        calls = [begin(2, 2, 2), number(1, "12"), lift(0), digit(0, 1), digit(0, 2), lift(0), lift(9)]
        wanted = [2, 4, 0, 2, 0, 0, 2, 1, 0, 3, 1, 1, 0, 3, 3, 1, 0, 2, -5, 0, 2, -1, 0]
        self.assertEqual(answers(flat(calls)), wanted)

    def test_a_refusal_has_a_0_behind_it(self):
        self.assertEqual(answers([8, 0]), [2, -2, 0])
        self.assertEqual(answers([1, 0, 0, 0, 17]), [2, -1, 0, 2, -2, 0])
        self.assertEqual(answers(flat([begin(1, 1, 1), lift(0), digit(0, 10)])), [2, 1, 0, 2, 1, 0, 2, -1, 0])

    def test_rows_are_read_whole(self):
        twenty = list(range(1000, 980, -1))
        for call in (number(0, twenty), group(twenty, twenty), group("1", twenty), group([], []), price(1, twenty),
                     hand(0, 0, twenty)):
            self.assertEqual(split_up(answers(flat([begin(1, 2, 1), call, lift(1)])))[1:], [(-1, []), (1, [])])

    def test_the_call_behind_each_call_is_read(self):
        for call in ONE_OF_EACH + [owner([]), owner([8] * 20)]:
            given = split_up(answers(flat([begin(2, 2, 2), call, lift(1), number(3, "2"), lift(1)])))
            self.assertEqual(len(given), 5, call)
            self.assertEqual(given[2:], [(1, []), (0, []), (-5, [])], call)

    def test_the_answers_of_the_calls_that_tell(self):
        calls = [begin(2, 2, 2), number(1, "12"), price(3, "1"), *dial(0, "12"), look(1), middle(0), lift(1), tick(61),
                 hang(1), look(0), look(1), owes(0), record(0), record(1), owner("1"), owner("12"), owner("2"),
                 counts()]
        wanted = [2, 4, 0, 2, 0, 0, 2, 0, 0, 2, 1, 0, 3, 1, 1, 0, 3, 3, 1, 0, 7, 5, 5, 0, 1, 0, 0, 0, 4, 1, 2, 0, 1,
                  2, 2, 0, 3, 0, 1, 0, 3, 0, 1, 6, 2, 4, 0, 2, 0, 0, 2, 6, 0, 7, 0, 5, 0, 1, 0, 61, 6, 2, -3, 0,
                  2, 0, 0, 3, 1, 1, 1, 2, -4, 0, 6, 0, 4, 0, 1, 0, 61]
        self.assertEqual(answers(flat(calls)), wanted)

    def test_what_is_handed_in_is_not_changed(self):
        calls = flat([begin(2, 2, 2), number(1, "12"), group("3", [2, 3]), price(5, "1"), hand(1, 0, "3"), wait(3),
                      *dial(0, "12"), clear(1), *ONE_OF_EACH])
        kept = list(calls)
        given = answers(Sealed(calls))
        self.assertEqual(answers(calls), given)
        self.assertEqual(calls, kept)

    def test_nothing_is_kept_from_one_time_to_the_next(self):
        calls = flat([begin(2, 2, 2), number(1, "12"), hand(1, 0, "3"), price(1, "1"), group("3", [3]), *dial(0, "12")])
        given = answers(calls)
        kept = list(given)
        self.assertEqual(answers([8, 0]), [2, -2, 0])
        again = answers(calls)
        self.assertEqual(again, kept)
        again.append(1)
        self.assertEqual(given, kept)
        self.assertEqual(answers(calls), kept)

    def test_four_hundred_calls(self):
        calls = [begin(8, 8, 8)] + [group([8] * 20, [1000] * 20)] * 381 + [number(63, "1")] + dial(0, "1")
        calls += [price(TOP, [])] * (400 - len(calls))
        given = split_up(answers(flat(calls)))
        self.assertEqual(len(given), 400)
        self.assertEqual(given[383:386], [(1, []), (3, [0]), (-1, [])])
