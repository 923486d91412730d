"""Call 1, publish."""

import unittest

from tests.helper import (GREATEST, LEAST, RULE, all_of, ask, bag_of, begin, controller_of, last, publish,
                          publish_numbers, turn, work, world_after)


class Publish(unittest.TestCase):
    def test_it_answers_the_number(self):
        self.assertEqual(ask([begin(), publish(RULE)]), [[0], [1]])

    def test_the_numbers_rise_by_one(self):
        calls = [begin()]
        for _ in range(5):
            calls += [publish(RULE)] + turn()
        self.assertEqual(ask(calls)[1::5], [[1], [2], [3], [4], [5]])

    def test_it_is_pending_and_not_in_force(self):
        self.assertEqual(controller_of(world_after([begin(), publish(RULE)])), [0, 1, 0, 0])

    def test_it_sends_nothing(self):
        self.assertEqual(bag_of(world_after([begin(), publish(RULE)])), [])

    def test_its_rules_in_their_order(self):
        world = world_after([begin(1), publish([0, 1, 2, 0], [-1, 0, 65535, 1], [0, 7, 7, 0]), work()])
        self.assertEqual(bag_of(world), [
            [0, 0, 1, 1, 0, 3, 0, 1, 2, 0], [0, 0, 1, 1, 1, 3, -1, 0, 65535, 1], [0, 0, 1, 1, 2, 3, 0, 7, 7, 0]])

    def test_a_version_without_rules(self):
        calls = [begin(), publish()]
        self.assertEqual(ask(calls), [[0], [1]])
        self.assertEqual(bag_of(world_after(calls + [work()])), [[0, 0, 1, 1, 0, 0], [0, 1, 2, 1, 0, 0]])

    def test_right_rules_at_their_edges(self):
        for n, rule in [(1, [-1, 0, 0, 0]), (1, [0, 0, 0, 0]), (2, [1, 0, 0, 1]), (16, [15, 0, 0, 1]),
                        (2, [0, 0, 65535, 1]), (2, [0, 65535, 65535, 1]), (2, [0, 8, 8, 0]), (2, [0, 8, 9, 0])]:
            with self.subTest(n=n, rule=rule):
                self.assertEqual(last([begin(n), publish(rule)]), [1])

    def test_wrong_rules(self):
        for n, rule in [(1, [-2, 0, 0, 0]), (1, [1, 0, 0, 0]), (2, [2, 0, 0, 1]), (16, [16, 0, 0, 1]),
                        (2, [LEAST, 0, 0, 1]), (2, [GREATEST, 0, 0, 1]), (2, [0, -1, 5, 1]), (2, [0, -1, -1, 1]),
                        (2, [0, 5, 65536, 1]), (2, [0, 65536, 65536, 1]), (2, [0, LEAST, GREATEST, 1]),
                        (2, [0, 9, 8, 1]), (2, [0, 65535, 0, 1]), (2, [0, 5, 9, 2]), (2, [0, 5, 9, -1]),
                        (2, [0, 5, 9, GREATEST]), (2, [0, 5, 9, LEAST])]:
            with self.subTest(n=n, rule=rule):
                self.assertEqual(last([begin(n), publish(rule)]), [-1])

    def test_each_rule_is_looked_at(self):
        wrong = [0, 9, 8, 1]
        self.assertEqual(last([begin(), publish(wrong, RULE, RULE)]), [-1])
        self.assertEqual(last([begin(), publish(RULE, wrong, RULE)]), [-1])
        self.assertEqual(last([begin(), publish(*[RULE] * 15, wrong)]), [-1])

    def test_how_many_numbers_a_list_has(self):
        for size in range(0, 129):
            told = [1] if size <= 64 and size % 4 == 0 else [-1]
            with self.subTest(size=size):
                self.assertEqual(last([begin(), publish_numbers((RULE * 32)[:size])]), told)

    def test_no_second_one_while_one_is_pending(self):
        self.assertEqual(ask([begin(), publish(RULE), publish(RULE)]), [[0], [1], [-2]])
        self.assertEqual(ask([begin(), publish(RULE), work(), publish()])[3], [-2])

    def test_pending_till_every_switch_is_turned(self):
        told = ask([begin(), publish(RULE)] + [call for step in turn() for call in (publish(), step)] + [publish()])
        self.assertEqual(told[2::2], [[-2], [-2], [-2], [-2], [2]])

    def test_a_wrong_list_is_looked_at_first(self):
        for wrong in ([1, 2, 3], RULE * 17, [0, 9, 8, 1]):
            self.assertEqual(last([begin(), publish(RULE), publish_numbers(wrong)]), [-1])

    def test_a_refused_one_changes_nothing(self):
        for before in ([begin()], [begin(), publish(RULE), work()]):
            for call in ([publish_numbers([1, 2, 3])], [publish_numbers(RULE * 17)], [publish([9, 0, 0, 0])]):
                self.assertEqual(last(before + call), [-1])
                self.assertEqual(all_of(world_after(before + call)), all_of(world_after(before)))
        before = [begin(), publish(RULE), work()]
        self.assertEqual(all_of(world_after(before + [publish()])), all_of(world_after(before)))

    def test_a_refused_one_takes_no_number(self):
        self.assertEqual(ask([begin(), publish_numbers([1]), publish(RULE), publish(RULE)] + turn() + [publish()])[-1],
                         [2])


if __name__ == "__main__":
    unittest.main()
