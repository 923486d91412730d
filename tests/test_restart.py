"""Calls 8 and 9: restart and hello."""

import unittest

from tests.helper import (GREATEST, LEAST, RULE, all_of, ask, bag_of, begin, flow, hello, knows_of, last, lose, publish,
                          restart, switch_of, tick, turn, work, world_after)

ROLLED = [begin(2, 99, 10), publish(RULE)] + turn() + [publish()] + turn() + [tick(10), work(), flow()]


class NoSwitch(unittest.TestCase):
    def test_both_calls(self):
        for call in (restart, hello):
            for n in (1, 2, 16):
                for x in (-1, n, n + 1, LEAST, GREATEST):
                    with self.subTest(call=call.__name__, n=n, x=x):
                        self.assertEqual(last([begin(n), call(x)]), [-1])
                self.assertNotEqual(last([begin(n), call(0)]), [-1])
                self.assertNotEqual(last([begin(n), call(n - 1)]), [-1])

    def test_a_refused_one_changes_nothing(self):
        for call in (restart, hello):
            for x in (-1, 2, GREATEST, LEAST):
                self.assertEqual(all_of(world_after(ROLLED + [call(x)])), all_of(world_after(ROLLED)))

    def test_a_refused_restart_leaves_the_book(self):
        self.assertEqual(ask([begin(2), restart(2), restart(-1), restart(0)]), [[0], [-1], [-1], [3]])


class Restart(unittest.TestCase):
    def test_it_answers_the_start(self):
        self.assertEqual(ask([begin(3), restart(0), restart(0), restart(2), restart(1)]), [[0], [4], [5], [6], [7]])

    def test_the_switch_has_nothing(self):
        self.assertEqual(switch_of(world_after(ROLLED), 1), [2, 2, 1, 1, 2, 0, 0])
        self.assertEqual(switch_of(world_after(ROLLED + [restart(1)]), 1), [3, 0, 0, 0])

    def test_the_others_stay(self):
        self.assertEqual(switch_of(world_after(ROLLED + [restart(1)]), 0), [1, 2, 1, 1, 2, 0, 0])

    def test_hello_is_sent_with_the_new_start(self):
        self.assertEqual(bag_of(world_after([begin(), hello(0), restart(1)])), [[3, 0, 1], [3, 1, 3]])

    def test_the_controller_does_not_know_before_the_hello_comes(self):
        before = world_after(ROLLED)
        after = world_after(ROLLED + [restart(1)])
        self.assertEqual([knows_of(after, x) for x in range(2)], [knows_of(before, x) for x in range(2)])
        self.assertEqual(knows_of(world_after(ROLLED + [restart(1), flow()]), 1), [3, 0, 0, 0])

    def test_what_was_sent_to_the_start_before_does_nothing(self):
        calls = [begin(1), publish(RULE), work(), restart(0), flow()]
        self.assertEqual(last(calls), [0, 2])
        self.assertEqual(switch_of(world_after(calls), 0), [2, 0, 0, 0])

    def test_version_and_clock_stay(self):
        first = world_after(ROLLED)
        second = world_after(ROLLED + [restart(0)])
        self.assertEqual(first.now, second.now)
        self.assertEqual(first.controller.published, second.controller.published)
        self.assertEqual(first.controller.in_force, second.controller.in_force)


class Hello(unittest.TestCase):
    def test_it_sends_the_switchs_own_start(self):
        self.assertEqual(bag_of(world_after([begin(3), hello(0), hello(2)])), [[3, 0, 1], [3, 2, 3]])
        self.assertEqual(bag_of(world_after([begin(3), restart(2), lose(0), hello(2)])), [[3, 2, 4]])

    def test_it_answers_0(self):
        self.assertEqual(last([begin(), hello(1)]), [0])

    def test_it_leaves_the_rest(self):
        first = all_of(world_after(ROLLED))
        second = all_of(world_after(ROLLED + [hello(1)]))
        self.assertEqual(first[:5] + first[6:], second[:5] + second[6:])

    def test_it_mends_a_lost_hello(self):
        calls = [begin(1), publish(RULE), restart(0), lose(0)]
        # Rows with a start of before do nothing, till the controller hears of the new one.
        self.assertEqual(ask(calls + [work(), flow()])[-1], [0, 1])
        self.assertEqual(ask(calls + [hello(0), flow(), work(), flow()])[-1], [0, 2])


if __name__ == "__main__":
    unittest.main()
