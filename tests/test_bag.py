"""Calls 4 to 7: deliver, lose, double, flow."""

import unittest

from tests.helper import (GREATEST, LEAST, RULE, all_of, ask, bag_of, bag_size, begin, deliver, double, flow, hello,
                          last, lose, publish, restart, turn, work, world_after)

# Three hellos in the bag, told apart by their switches.
THREE = [begin(3, 5), hello(0), hello(1), hello(2)]
H0, H1, H2 = [3, 0, 1], [3, 1, 2], [3, 2, 3]


class Places(unittest.TestCase):
    def test_places_for_all_three_calls(self):
        for call in (deliver, lose, double):
            for k, told in [(0, 0), (1, 0), (2, 0), (3, -1), (-1, -1), (-3, -1), (LEAST, -1), (GREATEST, -1)]:
                with self.subTest(call=call.__name__, k=k):
                    self.assertEqual(last(THREE + [call(k)]), [told])

    def test_an_empty_bag_has_no_place(self):
        for call in (deliver, lose, double):
            for k in (0, -1, 1):
                self.assertEqual(last([begin(), call(k)]), [-1])

    def test_a_refused_one_changes_nothing(self):
        for call in (deliver, lose, double):
            for k in (-1, 3, LEAST, GREATEST):
                self.assertEqual(all_of(world_after(THREE + [call(k)])), all_of(world_after(THREE)))


class Deliver(unittest.TestCase):
    def test_the_message_is_taken_out(self):
        self.assertEqual(bag_of(world_after(THREE + [deliver(0)])), [H1, H2])
        self.assertEqual(bag_of(world_after(THREE + [deliver(1)])), [H0, H2])
        self.assertEqual(bag_of(world_after(THREE + [deliver(2)])), [H0, H1])

    def test_and_handed_over(self):
        world = world_after([begin(), publish(RULE), work(), deliver(1)])
        self.assertEqual(bag_of(world), [[0, 0, 1, 1, 0, 1] + RULE, [4, 1, 2, 1]])
        self.assertEqual(sorted(world.switches[1].parts), [1])
        self.assertEqual(world.switches[0].parts, {})

    def test_in_a_full_bag_there_is_room_for_the_answer(self):
        world = world_after([begin(2, 2), publish(RULE), work(), deliver(0)])
        self.assertEqual(bag_of(world), [[0, 1, 2, 1, 0, 1] + RULE, [4, 0, 1, 1]])
        self.assertEqual(world.lost, 0)

    def test_it_answers_0_where_the_message_does_nothing(self):
        self.assertEqual(ask([begin(), publish(RULE), work(), restart(0), deliver(0), flow()])[4:], [[0], [0, 3]])


class Lose(unittest.TestCase):
    def test_the_message_is_taken_out(self):
        self.assertEqual(bag_of(world_after(THREE + [lose(0)])), [H1, H2])
        self.assertEqual(bag_of(world_after(THREE + [lose(1)])), [H0, H2])
        self.assertEqual(bag_of(world_after(THREE + [lose(2)])), [H0, H1])

    def test_it_is_not_handed_over(self):
        before = [begin(), publish(RULE), restart(1)]
        world = world_after(before + [lose(0)])
        self.assertEqual(world.controller.starts, [1, 2])
        self.assertEqual(ask(before + [lose(0), work(), flow()])[-1], [0, 3])

    def test_the_count_lost_stays(self):
        self.assertEqual(world_after(THREE + [lose(0), lose(0)]).lost, 0)
        self.assertEqual(world_after([begin(1, 1), hello(0), hello(0), lose(0)]).lost, 1)


class Double(unittest.TestCase):
    def test_the_same_message_at_the_bags_end(self):
        self.assertEqual(bag_of(world_after(THREE + [double(0)])), [H0, H1, H2, H0])
        self.assertEqual(bag_of(world_after(THREE + [double(2)])), [H0, H1, H2, H2])
        self.assertEqual(bag_of(world_after(THREE + [double(1), double(3)])), [H0, H1, H2, H1, H1])

    def test_a_row_with_its_rule(self):
        row = [0, 0, 1, 1, 0, 1] + RULE
        self.assertEqual(bag_of(world_after([begin(1), publish(RULE), work(), double(0)])), [row, row])

    def test_both_are_handed_over(self):
        self.assertEqual(ask([begin(1), publish(RULE), work(), double(0), flow(2), flow()])[4:], [[0, 2], [0, 2]])

    def test_one_lost_leaves_the_other(self):
        self.assertEqual(last([begin(1), publish(RULE), work(), double(0), lose(0), flow()]), [0, 2])

    def test_a_full_bag(self):
        full = THREE + [double(0), double(0)]
        self.assertEqual(ask(full + [double(0)])[4:], [[0], [0], [-2]])
        self.assertEqual(all_of(world_after(full + [double(0)])), all_of(world_after(full)))
        self.assertEqual(ask(full + [double(0), lose(0), double(0)])[6:], [[-2], [0], [0]])

    def test_a_refused_one_counts_nothing_as_lost(self):
        self.assertEqual(world_after([begin(1, 1), hello(0), double(0)]).lost, 0)

    def test_the_place_is_looked_at_before_the_full_bag(self):
        full = [begin(1, 1), hello(0)]
        for k in (-1, 1, GREATEST, LEAST):
            self.assertEqual(last(full + [double(k)]), [-1])
        self.assertEqual(last(full + [double(0)]), [-2])

    def test_it_leaves_the_rest(self):
        first = all_of(world_after(THREE))
        second = all_of(world_after(THREE + [double(0)]))
        self.assertEqual(first[:5] + first[6:], second[:5] + second[6:])


class Flow(unittest.TestCase):
    def test_its_edges(self):
        for m, told in [(0, [0, 0]), (1, [0, 1]), (3, [0, 3]), (4, [0, 3]), (5000, [0, 3]), (-1, [-1]), (5001, [-1]),
                        (LEAST, [-1]), (GREATEST, [-1])]:
            with self.subTest(m=m):
                self.assertEqual(last(THREE + [flow(m)]), told)

    def test_an_empty_bag(self):
        self.assertEqual(ask([begin(), flow(0), flow(1), flow(5000), flow(5001)]),
                         [[0], [0, 0], [0, 0], [0, 0], [-1]])

    def test_0_hands_nothing_over(self):
        before = [begin(), publish(RULE), work()]
        self.assertEqual(all_of(world_after(before + [flow(0)])), all_of(world_after(before)))

    def test_a_refused_one_changes_nothing(self):
        before = [begin(), publish(RULE), work()]
        for m in (-1, 5001):
            self.assertEqual(all_of(world_after(before + [flow(m)])), all_of(world_after(before)))

    def test_from_place_0_on(self):
        self.assertEqual(bag_of(world_after(THREE + [flow(1)])), [H1, H2])
        self.assertEqual(bag_of(world_after(THREE + [flow(2)])), [H2])

    def test_answers_come_in_the_same_flow(self):
        self.assertEqual(ask([begin(), publish(RULE), work(), flow(9), flow(9)])[3:], [[0, 4], [0, 0]])
        self.assertEqual(ask([begin(), publish(RULE), work(), flow(3), flow(9)])[3:], [[0, 3], [0, 1]])

    def test_it_does_what_as_many_delivers_do(self):
        before = [begin(3), publish(RULE, RULE), work(), restart(1)]
        self.assertEqual(all_of(world_after(before + [flow(8)])), all_of(world_after(before + [deliver(0)] * 8)))

    def test_in_a_full_bag_no_answer_is_lost(self):
        calls = [begin(2, 2), publish(RULE), work(), flow()]
        self.assertEqual(last(calls), [0, 4])
        self.assertEqual(world_after(calls).lost, 0)

    def test_5000_at_most(self):
        # 16 switches with 16 rules each, 16 times: 4096 rows, of which each switch answers all but the first 15.
        calls = [begin(16, 4096), publish(*[RULE] * 16)] + [work()] * 16
        rows, haves = 4096, 4096 - 16 * 15
        self.assertEqual(ask(calls + [flow(5000), flow(5000)])[-2:], [[0, 5000], [0, rows + haves - 5000]])
        self.assertEqual(ask(calls + [flow(4999), flow(5000)])[-2:], [[0, 4999], [0, rows + haves - 4999]])


class FullBag(unittest.TestCase):
    def test_hello_and_restart_into_a_full_bag(self):
        full = [begin(2, 1), hello(1)]
        self.assertEqual(ask(full + [hello(0), restart(0)])[2:], [[0], [3]])
        world = world_after(full + [hello(0), restart(0)])
        self.assertEqual(bag_of(world), [H1])
        self.assertEqual(world.lost, 2)
        self.assertEqual(bag_size(full + [hello(0), restart(0)]), 1)

    def test_a_rollout_over_a_bag_of_one_message(self):
        # Only the first row of each work fits; the switches come in one after another.
        calls = [begin(2, 1), publish(RULE)] + turn() + turn()
        self.assertEqual(ask(calls)[2:], [[0], [0, 2]] * 4)
        world = world_after(calls)
        self.assertEqual([world.controller.in_force, world.controller.pending], [1, False])
        self.assertEqual(world.lost, 2)


if __name__ == "__main__":
    unittest.main()
