"""Call 0, begin."""

import unittest

from tests.helper import (GREATEST, LEAST, RULE, all_of, ask, bag_size, begin, controller_of, counts_of, double, flow,
                          hello, knows_of, last, publish, restart, switch_of, tick, turn, work, world_after)

# A line that leaves something everywhere: a retired version, a pending one, messages, a start, lost ones, a time.
BUSY = [begin(2, 3, 4, 5), publish(RULE)] + turn() + [publish()] + turn() + [
    tick(2), publish(RULE), work(), restart(1), hello(0), double(0)]


class Begin(unittest.TestCase):
    def test_it_answers_0(self):
        self.assertEqual(ask([begin()]), [[0]])

    def test_the_least_and_the_greatest(self):
        self.assertEqual(ask([begin(1, 1, 1, 1)]), [[0]])
        self.assertEqual(ask([begin(16, 4096, 1000000, 256)]), [[0]])

    def test_each_number_at_its_edges(self):
        edges = [("n", 16), ("cap", 4096), ("life", 1000000), ("room", 256)]
        for name, greatest in edges:
            for number, told in [(1, 0), (greatest, 0), (0, -1), (greatest + 1, -1), (-1, -1), (LEAST, -1),
                                 (GREATEST, -1)]:
                with self.subTest(name=name, number=number):
                    self.assertEqual(ask([begin(**{name: number})]), [[told]])

    def test_all_wrong_at_once(self):
        self.assertEqual(ask([begin(0, 0, 0, 0)]), [[-1]])

    def test_what_is_new(self):
        world = world_after([begin(3, 7, 8, 9)])
        self.assertEqual([world.cap, world.life, world.room, world.book], [7, 8, 9, 3])
        self.assertEqual([switch_of(world, x) for x in range(3)], [[1, 0, 0, 0], [2, 0, 0, 0], [3, 0, 0, 0]])
        self.assertEqual([knows_of(world, x) for x in range(3)], [[1, 0, 0, 0], [2, 0, 0, 0], [3, 0, 0, 0]])
        self.assertEqual(controller_of(world), [0, 0, 0, 0])
        self.assertEqual(counts_of(world), [0, 0, 0, 0, 0, 0, 0, 0])
        self.assertEqual([world.bag, world.packets, world.controller.published], [[], [], []])

    def test_the_book_is_n(self):
        for n in (1, 2, 16):
            self.assertEqual(last([begin(n), restart(0)]), [n + 1])

    def test_there_are_n_switches(self):
        for n in (1, 5, 16):
            self.assertEqual(ask([begin(n), hello(n - 1), hello(n)]), [[0], [0], [-1]])

    def test_cap_is_the_bags_size(self):
        for cap in (1, 2, 50):
            self.assertEqual(bag_size([begin(2, cap)] + [hello(0)] * 60), cap)

    def test_the_greatest_bag_holds_4096(self):
        # 16 switches with 16 rules each: 256 messages a work.
        calls = [begin(16, 4096), publish(*[RULE] * 16)] + [work()] * 16
        self.assertEqual(last(calls + [double(4095)]), [-2])
        self.assertEqual(last(calls + [double(4096)]), [-1])
        self.assertEqual(world_after(calls).lost, 0)
        self.assertEqual(world_after(calls + [hello(0)]).lost, 1)

    def test_a_second_begin_makes_all_new(self):
        self.assertEqual(all_of(world_after(BUSY + [begin(4, 30, 20, 10)])), all_of(world_after([begin(4, 30, 20, 10)])))

    def test_a_second_begin_as_it_is_answered(self):
        calls = BUSY + [begin(4), flow(9), restart(0), publish(RULE), publish()]
        self.assertEqual(ask(calls)[len(BUSY):], [[0], [0, 0], [5], [1], [-2]])

    def test_a_second_begin_sets_the_clock_to_0(self):
        self.assertEqual(ask([begin(), tick(2 ** 62), tick(1), begin(), tick(2 ** 62)])[2:], [[-2], [0], [0]])

    def test_a_refused_begin_leaves_what_there_is(self):
        for refused in (begin(0), begin(17), begin(3, 0), begin(3, 4097), begin(3, 9, 0), begin(3, 9, 1000001),
                        begin(3, 9, 9, 0), begin(3, 9, 9, 257)):
            with self.subTest(refused=refused):
                self.assertEqual(last(BUSY + [refused]), [-1])
                self.assertEqual(all_of(world_after(BUSY + [refused])), all_of(world_after(BUSY)))

    def test_a_refused_begin_as_the_next_calls_tell(self):
        calls = [begin(2), publish(RULE), work(), begin(17), publish(), flow(), hello(1), hello(2)]
        self.assertEqual(ask(calls)[3:], [[-1], [-2], [0, 4], [0], [-1]])


if __name__ == "__main__":
    unittest.main()
