"""Call 3, tick."""

import unittest

from tests.helper import GREATEST, LEAST, RULE, TIME_END, all_of, ask, begin, last, publish, tick, work, world_after


class Tick(unittest.TestCase):
    def test_now_is_n_more(self):
        calls = [begin(), tick(1), tick(41)]
        self.assertEqual(ask(calls), [[0], [0], [0]])
        self.assertEqual(world_after(calls).now, 42)

    def test_its_edges(self):
        for n, told in [(1, 0), (TIME_END, 0), (0, -1), (-1, -1), (TIME_END + 1, -1), (LEAST, -1), (GREATEST, -1)]:
            with self.subTest(n=n):
                self.assertEqual(last([begin(), tick(n)]), [told])

    def test_the_clocks_end(self):
        self.assertEqual(ask([begin(), tick(TIME_END - 1), tick(2), tick(1), tick(1)]), [[0], [0], [-2], [0], [-2]])
        self.assertEqual(ask([begin(), tick(1), tick(TIME_END), tick(TIME_END - 1)]), [[0], [0], [-2], [0]])

    def test_the_wrong_number_is_looked_at_first(self):
        for n in (0, -1, TIME_END + 1, GREATEST):
            self.assertEqual(last([begin(), tick(TIME_END), tick(n)]), [-1])

    def test_a_refused_one_changes_nothing(self):
        before = [begin(), publish(RULE), work(), tick(7)]
        for n, told in [(0, -1), (-7, -1), (TIME_END + 1, -1), (TIME_END, -2), (TIME_END - 6, -2)]:
            self.assertEqual(last(before + [tick(n)]), [told])
            self.assertEqual(all_of(world_after(before + [tick(n)])), all_of(world_after(before)))

    def test_it_moves_the_clock_alone(self):
        before = [begin(), publish(RULE), work()]
        first = all_of(world_after(before))
        second = all_of(world_after(before + [tick(9)]))
        self.assertEqual(first[0][4][0], 0)
        self.assertEqual(second[0][4][0], 9)
        second[0][4][0] = 0
        self.assertEqual(first, second)


if __name__ == "__main__":
    unittest.main()
