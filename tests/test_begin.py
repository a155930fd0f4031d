import unittest

from calling import (IDLE, ONE_OF_EACH, TOP, Watched, ask, begin, clear, counts, dial, digit, group, hand, hang, last,
                     lift, look, middle, number, owes, owner, price, record, tick, wait)


class Begin(unittest.TestCase):
    def test_answers_how_many_lines(self):
        for n, r, m in [(1, 1, 1), (1, 1, 16), (8, 8, 8), (8, 8, 16), (2, 3, 2), (3, 2, 16), (1, 8, 1), (8, 1, 8)]:
            self.assertEqual(last(begin(n, r, m)), (n * r, []), (n, r, m))

    def test_sizes_out_of_their_bounds(self):
        wrong = [(0, 1, 1), (9, 1, 9), (1, 0, 1), (1, 9, 1), (1, 1, 0), (1, 1, 17), (2, 2, 1), (8, 8, 7), (8, 8, 17),
                 (0, 0, 0), (TOP, 1, TOP), (1, TOP, 1), (1, 1, TOP)]
        for n, r, m in wrong:
            self.assertEqual(last(begin(n, r, m)), (-1, []), (n, r, m))

    def test_begins_as_the_document_tells(self):
        exchange = Watched(begin(2, 3, 4)).exchange
        self.assertEqual(exchange.time, 0)
        self.assertEqual(exchange.wait, 30)
        self.assertEqual([line.state for line in exchange.lines], [IDLE] * 6)
        self.assertEqual(exchange.calls, [])

    def test_begin_again_is_a_new_exchange(self):
        used = [begin(2, 2, 2), number(0, "1"), group("2", [1, 2]), price(7, "1"), hand(1, 0, "1"), wait(5), tick(3),
                *dial(1, "1"), lift(0), tick(9), hang(1), hang(0), *dial(1, "1")]
        self.assertEqual(Watched(*used, begin(2, 1, 3)).picture(), Watched(begin(2, 1, 3)).picture())
        self.assertEqual(last(*used, begin(3, 1, 3), number(2, "1")), (0, []))
        self.assertEqual(last(*used, begin(1, 1, 1), lift(1)), (-1, []))
        self.assertEqual(last(*used, owes(1)), (7, []))
        self.assertEqual(last(*used, counts()), (0, [1, 1, 0, 9]))
        again = ask(*used, begin(2, 2, 3), look(0), look(1), owes(1), record(0), owner("1"), owner([]), counts(),
                    middle(0), middle(2), tick(0))[len(used) + 1:]
        self.assertEqual(again, [(0, []), (0, []), (0, []), (-3, []), (-4, []), (-4, []), (0, [0, 0, 0, 0]),
                                 (0, []), (0, []), (0, [0])])

    def test_begin_again_has_the_wait_of_30(self):
        set_up = [begin(2, 2, 2), wait(5), begin(2, 2, 2), number(1, "1"), *dial(0, "1")]
        self.assertEqual(last(*set_up, tick(29), look(1))[0], 5)
        self.assertEqual(last(*set_up, tick(30), look(1))[0], 0)

    def test_a_refused_begin_leaves_the_exchange(self):
        seen = Watched(begin(2, 2, 2), number(0, "1"), lift(1))
        before = seen.picture()
        self.assertEqual(seen.do(begin(2, 2, 1)), [-1])
        self.assertEqual(seen.picture(), before)

    def test_all_else_before_begin(self):
        self.assertEqual(sorted(call[0] for call in ONE_OF_EACH), list(range(2, 18)))
        for call in ONE_OF_EACH:
            self.assertEqual(last(call), (-2, []), call)
            self.assertEqual(last(begin(0, 1, 1), call), (-2, []), call)

    def test_before_begin_nothing_else_is_looked_at(self):
        wrong = [number(TOP, []), clear(TOP), group([], []), price(TOP, [10]), hand(TOP, TOP, [10]), wait(0),
                 lift(TOP), digit(TOP, TOP), hang(TOP), tick(0), look(TOP), middle(TOP), owes(TOP), record(TOP),
                 owner([10])]
        self.assertEqual(ask(*wrong), [(-2, [])] * len(wrong))

    def test_a_line_that_there_is_not(self):
        for line in (6, 7, TOP):
            for call in [number(line, "1"), clear(line), hand(line, 0, "1"), lift(line), digit(line, 1), hang(line),
                         look(line), owes(line)]:
                self.assertEqual(last(begin(2, 3, 2), call), (-1, []), call)
        self.assertEqual(last(begin(2, 3, 2), lift(5)), (1, []))
