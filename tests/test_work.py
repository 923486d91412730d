"""Call 2, work: what it sends, in which order, and what it leaves unsent."""

import unittest

from tests.helper import (RULE, all_of, bag_of, bag_size, begin, deliver, flow, last, lose, publish, restart, tick, turn,
                          work, world_after)

ROW_0 = [0, 0, 1, 1, 0, 1] + RULE
ROW_1 = [0, 1, 2, 1, 0, 1] + RULE


def sent(calls):
    return bag_of(world_after(calls))


class Rows(unittest.TestCase):
    def test_it_answers_0(self):
        self.assertEqual(last([begin(), work()]), [0])
        self.assertEqual(last([begin(), publish(RULE), work()]), [0])

    def test_nothing_published_nothing_sent(self):
        self.assertEqual(sent([begin(), work()]), [])

    def test_the_examples_two_rows(self):
        self.assertEqual(sent([begin(), publish(RULE), work()]), [ROW_0, ROW_1])

    def test_switch_by_switch_and_rule_by_rule(self):
        told = sent([begin(), publish(RULE, [1, 2, 3, 0]), work()])
        self.assertEqual(told, [
            [0, 0, 1, 1, 0, 2, -1, 5, 9, 1], [0, 0, 1, 1, 1, 2, 1, 2, 3, 0],
            [0, 1, 2, 1, 0, 2, -1, 5, 9, 1], [0, 1, 2, 1, 1, 2, 1, 2, 3, 0]])

    def test_the_same_again_as_long_as_no_switch_said_to_have_it(self):
        self.assertEqual(sent([begin(), publish(RULE), work(), work()]), [ROW_0, ROW_1, ROW_0, ROW_1])

    def test_a_have_under_way_is_not_said_yet(self):
        calls = [begin(), publish(RULE), work(), deliver(0), work()]
        self.assertEqual(sent(calls), [ROW_1, [4, 0, 1, 1], ROW_0, ROW_1])

    def test_no_rows_to_a_switch_that_said_to_have_it(self):
        calls = [begin(), publish(RULE), work(), lose(1), flow(), work()]
        self.assertEqual(sent(calls), [ROW_1])

    def test_the_one_in_force_before_the_pending_one(self):
        calls = [begin(1), publish(RULE)] + turn() + [restart(0), flow(), publish([0, 1, 1, 0]), work()]
        self.assertEqual(sent(calls), [[0, 0, 2, 1, 0, 1] + RULE, [0, 0, 2, 2, 0, 1, 0, 1, 1, 0]])

    def test_the_one_in_force_is_sent_without_a_pending_one(self):
        calls = [begin(1), publish(RULE)] + turn() + [restart(0), flow(), work()]
        self.assertEqual(sent(calls), [[0, 0, 2, 1, 0, 1] + RULE])

    def test_they_bear_the_start_that_the_controller_knows(self):
        calls = [begin(), publish(RULE), restart(0), lose(0), work()]
        self.assertEqual(sent(calls), [ROW_0, ROW_1])
        calls = [begin(), publish(RULE), restart(0), deliver(0), work()]
        self.assertEqual(sent(calls), [[0, 0, 3, 1, 0, 1] + RULE, ROW_1])

    def test_a_full_bag_loses_the_rest_and_counts_it(self):
        calls = [begin(2, 3), publish(RULE, RULE), work()]
        world = world_after(calls)
        self.assertEqual(bag_of(world), sent([begin(2, 99), publish(RULE, RULE), work()])[:3])
        self.assertEqual(world.lost, 1)
        self.assertEqual(world_after(calls + [work()]).lost, 5)
        self.assertEqual(last(calls), [0])
        self.assertEqual(bag_size(calls), 3)

    def test_it_changes_nothing_but_the_bag(self):
        before = [begin(), publish(RULE)] + turn() + [publish()]
        first = all_of(world_after(before))
        second = all_of(world_after(before + [work()]))
        self.assertNotEqual(first, second)
        self.assertEqual(first[:5] + first[6:], second[:5] + second[6:])


class Flips(unittest.TestCase):
    def test_a_flip_to_each_when_all_have_it(self):
        calls = [begin(), publish(RULE), work(), flow(), work()]
        self.assertEqual(sent(calls), [[1, 0, 1, 1], [1, 1, 2, 1]])

    def test_none_while_one_switch_lacks_it(self):
        calls = [begin(3), publish(RULE), work(), lose(2), flow(), work()]
        self.assertEqual(sent(calls), [[0, 2, 3, 1, 0, 1] + RULE])

    def test_none_to_a_switch_that_said_to_be_turned(self):
        calls = [begin(), publish(RULE), work(), flow(), work(), lose(0), flow(), work()]
        self.assertEqual(sent(calls), [[1, 0, 1, 1]])

    def test_none_when_all_are_turned(self):
        self.assertEqual(sent([begin(), publish(RULE)] + turn() + [work()]), [])

    def test_a_switch_that_started_anew_is_flipped_to_the_one_in_force(self):
        calls = [begin(), publish(RULE)] + turn() + [restart(1), flow(), work(), flow(), work()]
        self.assertEqual(sent(calls), [[1, 1, 3, 1]])

    def test_the_target_is_the_one_in_force_while_the_pending_one_is_not_everywhere(self):
        # Switch 1 starts anew and gets version 1 only: the rows of version 2 to switch 1 are lost.
        calls = [begin(), publish(RULE)] + turn() + [restart(1), flow(), publish(RULE), work(), lose(2), flow(), work()]
        self.assertEqual(sent(calls), [[0, 1, 3, 2, 0, 1] + RULE, [1, 1, 3, 1]])

    def test_no_flip_back(self):
        # Switch 0 said to be turned to 2; then switch 1 starts anew, so that the target is 1 again.
        calls = [begin(), publish(RULE)] + turn() + [publish(), work(), flow(), work(), lose(1), flow(), restart(1),
                                                     flow(), work()]
        world = world_after(calls)
        self.assertEqual(world.controller.target(), 1)
        self.assertEqual(world.controller.memories[0].turned, 2)
        self.assertEqual(bag_of(world), [[0, 1, 3, 1, 0, 1] + RULE, [0, 1, 3, 2, 0, 0]])

    def test_rows_of_both_then_drop(self):
        # Version 1 is retired and its time has come, 2 is in force and lost on switch 1, 3 is pending.
        calls = [begin(2, 99, 10), publish(RULE)] + turn() + [publish(RULE)] + turn() + [
            restart(1), flow(), tick(10), publish([-1, 0, 0, 0]), work()]
        self.assertEqual(sent(calls), [
            [0, 0, 1, 3, 0, 1, -1, 0, 0, 0], [2, 0, 1, 1],
            [0, 1, 3, 2, 0, 1, -1, 5, 9, 1], [0, 1, 3, 3, 0, 1, -1, 0, 0, 0], [2, 1, 3, 1]])

    def test_rows_of_the_pending_one_then_flip_to_the_one_in_force_then_drop(self):
        calls = [begin(2, 99, 10), publish(RULE)] + turn() + [publish(RULE)] + turn() + [
            restart(1), flow(), work(), flow(), tick(10), publish([-1, 0, 0, 0]), work()]
        self.assertEqual(sent(calls), [
            [0, 0, 1, 3, 0, 1, -1, 0, 0, 0], [2, 0, 1, 1],
            [0, 1, 3, 3, 0, 1, -1, 0, 0, 0], [1, 1, 3, 2], [2, 1, 3, 1]])

    def test_rows_of_the_one_in_force_then_flip_to_the_pending_one(self):
        # Switch 1 starts anew; of the rows that it's sent then, that of version 1 is lost and that of 2 comes.
        calls = [begin(), publish(RULE)] + turn() + [publish([0, 1, 1, 1]), restart(1), flow(), work(), lose(1), flow(),
                                                     work()]
        self.assertEqual(sent(calls), [[1, 0, 1, 2], [0, 1, 3, 1, 0, 1] + RULE, [1, 1, 3, 2]])


class Drops(unittest.TestCase):
    RETIRED = [begin(2, 99, 10), publish(RULE)] + turn() + [tick(5), publish(RULE)] + turn()

    def test_no_drop_before_its_time(self):
        self.assertEqual(sent(self.RETIRED + [work()]), [])
        self.assertEqual(sent(self.RETIRED + [tick(9), work()]), [])

    def test_a_drop_at_its_time_and_after(self):
        self.assertEqual(sent(self.RETIRED + [tick(10), work()]), [[2, 0, 1, 1], [2, 1, 2, 1]])
        self.assertEqual(sent(self.RETIRED + [tick(11), work()]), [[2, 0, 1, 1], [2, 1, 2, 1]])

    def test_no_drop_to_a_switch_that_said_it_is_gone(self):
        calls = self.RETIRED + [tick(10), work(), lose(0), flow(), work()]
        self.assertEqual(sent(calls), [[2, 0, 1, 1]])

    def test_no_drop_when_all_said_it(self):
        self.assertEqual(sent(self.RETIRED + [tick(10), work(), flow(), work()]), [])

    def test_retired_ones_in_their_order(self):
        calls = self.RETIRED + [tick(2), publish()] + turn()
        self.assertEqual(sent(calls + [tick(8), work()]), [[2, 0, 1, 1], [2, 1, 2, 1]])
        self.assertEqual(sent(calls + [tick(10), work()]), [[2, 0, 1, 1], [2, 0, 1, 2], [2, 1, 2, 1], [2, 1, 2, 2]])

    def test_a_drop_behind_a_flip(self):
        calls = self.RETIRED + [publish(), work(), flow(), tick(10), work()]
        self.assertEqual(sent(calls), [[1, 0, 1, 3], [2, 0, 1, 1], [1, 1, 2, 3], [2, 1, 2, 1]])

    def test_the_start_that_the_controller_knows(self):
        calls = self.RETIRED + [tick(10), restart(0), lose(0), work()]
        self.assertEqual(sent(calls), [[2, 0, 1, 1], [2, 1, 2, 1]])
        calls = self.RETIRED + [tick(10), restart(0), flow(), work()]
        self.assertEqual(sent(calls), [[0, 0, 3, 2, 0, 1] + RULE, [2, 0, 3, 1], [2, 1, 2, 1]])


if __name__ == "__main__":
    unittest.main()
