"""A message handed over: each of the seven kinds, with the right start and with another one."""

import unittest

from policyturn.handing import hand_over
from tests.helper import (RULE, all_of, bag_of, begin, controller_of, deliver, drop_message, flip_message, flow,
                          gone_message, have_message, hello_message, knows_of, publish, restart, row_message, switch_of,
                          tick, turn, turned_message, work, world_after)

FIRST = (-1, 5, 9, 1)
SECOND = (0, 7, 7, 0)
EMPTY = [begin(2, 99, 10)]
IN_FORCE_1 = EMPTY + [publish(RULE)] + turn()
PENDING_2 = IN_FORCE_1 + [publish()]
RETIRED_1 = PENDING_2 + turn()


def handed(calls, *messages):
    world = world_after(calls)
    for message in messages:
        hand_over(world, message)
    return world


class AnotherStart(unittest.TestCase):
    def test_at_a_switch_they_do_nothing(self):
        # Switch 0 has the start 4: what bears 1 or 3 is of before, 5 of nobody, 2 of another switch.
        calls = RETIRED_1 + [restart(0), restart(0), tick(10)]
        for start in (1, 2, 3, 5):
            for message in (row_message(0, start, 2), row_message(0, start, 3, 0, 1, FIRST), flip_message(0, start, 2),
                            flip_message(0, start, 0), drop_message(0, start, 1)):
                with self.subTest(start=start, kind=message.kind):
                    self.assertEqual(all_of(handed(calls, message)), all_of(world_after(calls)))

    def test_at_a_switch_the_own_start_counts_and_not_what_the_controller_knows(self):
        calls = EMPTY + [restart(0)]
        world = handed(calls, row_message(0, 3, 1))
        self.assertEqual(switch_of(world, 0), [3, 0, 0, 1, 1, 0, 0])
        self.assertEqual(bag_of(world), [[3, 0, 3], [4, 0, 3, 1]])

    def test_at_the_controller_they_do_nothing(self):
        calls = RETIRED_1 + [publish(), restart(0), flow(), restart(0)]
        # The controller knows 3 of switch 0; the switch itself has 4.
        for start in (1, 2, 4, 5):
            for message in (have_message(0, start, 3), turned_message(0, start, 3), gone_message(0, start, 1)):
                with self.subTest(start=start, kind=message.kind):
                    self.assertEqual(all_of(handed(calls, message)), all_of(world_after(calls)))

    def test_at_the_controller_the_start_that_it_knows_counts(self):
        calls = EMPTY + [restart(0)]
        world = handed(calls, have_message(0, 1, 7), turned_message(0, 1, 8), gone_message(0, 1, 9))
        self.assertEqual(knows_of(world, 0), [1, 8, 1, 7, 1, 9])

    def test_with_another_start_nothing_comes_in_force(self):
        calls = EMPTY + [publish(RULE)]
        world = handed(calls, turned_message(0, 1, 1), turned_message(1, 3, 1))
        self.assertEqual(controller_of(world), [0, 1, 0, 0])


class Row(unittest.TestCase):
    def test_the_first_row_of_one(self):
        world = handed(EMPTY, row_message(0, 1, 1, 0, 1, FIRST))
        self.assertEqual(switch_of(world, 0), [1, 0, 0, 1, 1, 1, 1])
        self.assertEqual(world.switches[0].parts[1].came, {0: FIRST})
        self.assertEqual(bag_of(world), [[4, 0, 1, 1]])

    def test_have_is_sent_when_the_last_one_comes(self):
        world = handed(EMPTY, row_message(0, 1, 1, 1, 2, SECOND))
        self.assertEqual(switch_of(world, 0), [1, 0, 0, 1, 1, 2, 1])
        self.assertEqual(bag_of(world), [])
        hand_over(world, row_message(0, 1, 1, 0, 2, FIRST))
        self.assertEqual(switch_of(world, 0), [1, 0, 0, 1, 1, 2, 2])
        self.assertEqual(world.switches[0].parts[1].came, {0: FIRST, 1: SECOND})
        self.assertEqual(bag_of(world), [[4, 0, 1, 1]])

    def test_a_row_that_came_before_counts_once(self):
        row = row_message(0, 1, 1, 1, 2, SECOND)
        world = handed(EMPTY, row, row, row)
        self.assertEqual(switch_of(world, 0), [1, 0, 0, 1, 1, 2, 1])
        self.assertEqual(bag_of(world), [])

    def test_have_is_sent_each_time_a_row_comes(self):
        row = row_message(0, 1, 1, 0, 1, FIRST)
        self.assertEqual(bag_of(handed(EMPTY, row, row, row)), [[4, 0, 1, 1]] * 3)
        row = row_message(0, 1, 1)
        self.assertEqual(bag_of(handed(EMPTY, row, row)), [[4, 0, 1, 1]] * 2)

    def test_the_first_rule_of_a_place_stays(self):
        world = handed(EMPTY, row_message(0, 1, 1, 0, 2, FIRST), row_message(0, 1, 1, 0, 2, SECOND))
        self.assertEqual(world.switches[0].parts[1].came, {0: FIRST})

    def test_the_first_total_stays(self):
        world = handed(EMPTY, row_message(0, 1, 1, 0, 2, FIRST), row_message(0, 1, 1, 0, 1, FIRST))
        self.assertEqual(switch_of(world, 0), [1, 0, 0, 1, 1, 2, 1])
        self.assertEqual(bag_of(world), [])

    def test_a_row_without_a_rule(self):
        world = handed(EMPTY, row_message(1, 2, 1))
        self.assertEqual(switch_of(world, 1), [2, 0, 0, 1, 1, 0, 0])
        self.assertEqual(switch_of(world, 0), [1, 0, 0, 0])
        self.assertEqual(bag_of(world), [[4, 1, 2, 1]])

    def test_a_version_not_above_the_floor(self):
        calls = RETIRED_1 + [tick(10), work(), flow(2)]
        for version in (1, 0):
            message = row_message(0, 1, version, 0, 1, FIRST)
            self.assertEqual(all_of(handed(calls, message)), all_of(world_after(calls)))
        world = handed(calls, row_message(0, 1, 3, 0, 1, FIRST))
        self.assertEqual(switch_of(world, 0), [1, 2, 1, 2, 2, 0, 0, 3, 1, 1])

    def test_a_version_below_current_and_above_the_floor_is_taken(self):
        world = handed(RETIRED_1, row_message(0, 1, 1, 0, 1, FIRST))
        self.assertEqual(bag_of(world), [[4, 0, 1, 1]])

    def test_several_versions_at_a_time(self):
        world = handed(EMPTY, row_message(0, 1, 3, 1, 2, FIRST), row_message(0, 1, 1), row_message(0, 1, 2, 0, 1, FIRST))
        self.assertEqual(switch_of(world, 0), [1, 0, 0, 3, 1, 0, 0, 2, 1, 1, 3, 2, 1])

    def test_it_turns_nothing(self):
        world = handed(EMPTY, row_message(0, 1, 1))
        self.assertEqual(world.switches[0].current, 0)


class Flip(unittest.TestCase):
    def test_to_a_whole_version(self):
        world = handed(PENDING_2 + [work(), flow()], flip_message(0, 1, 2))
        self.assertEqual(switch_of(world, 0), [1, 2, 0, 2, 1, 1, 1, 2, 0, 0])
        self.assertEqual(bag_of(world), [[5, 0, 1, 2]])

    def test_to_a_version_of_which_nothing_came(self):
        self.assertEqual(all_of(handed(PENDING_2, flip_message(0, 1, 2))), all_of(world_after(PENDING_2)))

    def test_to_a_version_that_is_not_whole(self):
        row = row_message(0, 1, 1, 1, 2, FIRST)
        self.assertEqual(all_of(handed(EMPTY, row, flip_message(0, 1, 1))), all_of(handed(EMPTY, row)))

    def test_to_what_is_current(self):
        world = handed(IN_FORCE_1, flip_message(0, 1, 1))
        self.assertEqual(switch_of(world, 0), switch_of(world_after(IN_FORCE_1), 0))
        self.assertEqual(bag_of(world), [[5, 0, 1, 1]])

    def test_to_less_than_what_is_current(self):
        world = handed(RETIRED_1, flip_message(0, 1, 1))
        self.assertEqual(world.switches[0].current, 2)
        self.assertEqual(bag_of(world), [[5, 0, 1, 1]])

    def test_to_less_than_what_is_current_though_it_was_dropped(self):
        world = handed(RETIRED_1 + [tick(10), work(), flow()], flip_message(0, 1, 1))
        self.assertEqual(switch_of(world, 0), [1, 2, 1, 1, 2, 0, 0])
        self.assertEqual(bag_of(world), [[5, 0, 1, 1]])

    def test_to_what_is_current_though_it_was_dropped(self):
        world = handed(IN_FORCE_1, drop_message(0, 1, 1), flip_message(0, 1, 1))
        self.assertEqual(switch_of(world, 0), [1, 1, 1, 0])
        self.assertEqual(bag_of(world), [[6, 0, 1, 1], [5, 0, 1, 1]])

    def test_over_a_version_in_between(self):
        world = handed(IN_FORCE_1, row_message(0, 1, 3), flip_message(0, 1, 3))
        self.assertEqual(world.switches[0].current, 3)


class Drop(unittest.TestCase):
    THREE = EMPTY, row_message(0, 1, 1), row_message(0, 1, 2, 0, 2, FIRST), row_message(0, 1, 3)

    def dropped(self, *versions):
        world = handed(*self.THREE)
        world.bag.clear()
        for version in versions:
            hand_over(world, drop_message(0, 1, version))
        return world

    def test_all_that_are_not_above_are_taken_away(self):
        self.assertEqual(switch_of(self.dropped(1), 0), [1, 0, 1, 2, 2, 2, 1, 3, 0, 0])
        self.assertEqual(switch_of(self.dropped(2), 0), [1, 0, 2, 1, 3, 0, 0])
        self.assertEqual(switch_of(self.dropped(3), 0), [1, 0, 3, 0])

    def test_gone_is_sent(self):
        self.assertEqual(bag_of(self.dropped(2)), [[6, 0, 1, 2]])

    def test_gone_is_sent_again(self):
        self.assertEqual(bag_of(self.dropped(2, 2, 1)), [[6, 0, 1, 2], [6, 0, 1, 2], [6, 0, 1, 1]])

    def test_the_floor_does_not_fall(self):
        self.assertEqual(switch_of(self.dropped(2, 1), 0), [1, 0, 2, 1, 3, 0, 0])

    def test_of_a_version_that_the_switch_has_not(self):
        world = handed(EMPTY, drop_message(0, 1, 4))
        self.assertEqual(switch_of(world, 0), [1, 0, 4, 0])
        self.assertEqual(bag_of(world), [[6, 0, 1, 4]])

    def test_what_is_current_stays(self):
        world = handed(IN_FORCE_1, drop_message(0, 1, 1))
        self.assertEqual(switch_of(world, 0), [1, 1, 1, 0])

    def test_the_other_switch_stays(self):
        self.assertEqual(switch_of(handed(IN_FORCE_1, drop_message(0, 1, 1)), 1), [2, 1, 0, 1, 1, 1, 1])


class Hello(unittest.TestCase):
    def test_a_greater_start(self):
        world = handed(RETIRED_1, hello_message(0, 3))
        self.assertEqual(knows_of(world, 0), [3, 0, 0, 0])
        self.assertEqual(knows_of(world, 1), [2, 2, 2, 1, 2, 0])
        self.assertEqual(controller_of(world), [2, 0, 2, 1, 1, 10])
        self.assertEqual(bag_of(world), [])

    def test_what_it_said_to_be_gone_is_forgotten_too(self):
        calls = RETIRED_1 + [tick(10), work(), flow()]
        self.assertEqual(knows_of(world_after(calls), 0), [1, 2, 2, 1, 2, 1, 1])
        self.assertEqual(knows_of(handed(calls, hello_message(0, 3)), 0), [3, 0, 0, 0])

    def test_the_same_start(self):
        self.assertEqual(all_of(handed(RETIRED_1, hello_message(0, 1))), all_of(world_after(RETIRED_1)))

    def test_a_lesser_start(self):
        calls = RETIRED_1 + [restart(0), restart(0), deliver(1), work(), flow()]
        self.assertEqual(knows_of(world_after(calls), 0)[0], 4)
        self.assertNotEqual(knows_of(world_after(calls), 0), [4, 0, 0, 0])
        for start in (1, 3):
            self.assertEqual(all_of(handed(calls, hello_message(0, start))), all_of(world_after(calls)))

    def test_the_target_falls_back(self):
        calls = PENDING_2 + [work(), flow()]
        self.assertEqual(controller_of(world_after(calls)), [1, 1, 2, 0])
        self.assertEqual(controller_of(handed(calls, hello_message(1, 3))), [1, 1, 1, 0])


class Have(unittest.TestCase):
    def test_it_is_kept(self):
        world = handed(EMPTY, have_message(0, 1, 2), have_message(0, 1, 1), have_message(0, 1, 2))
        self.assertEqual(knows_of(world, 0), [1, 0, 2, 1, 2, 0])
        self.assertEqual(knows_of(world, 1), [2, 0, 0, 0])

    def test_the_target_is_the_pending_one_when_all_said_it(self):
        calls = EMPTY + [publish(RULE)]
        self.assertEqual(controller_of(handed(calls, have_message(0, 1, 1))), [0, 1, 0, 0])
        self.assertEqual(controller_of(handed(calls, have_message(0, 1, 1), have_message(1, 2, 1))), [0, 1, 1, 0])

    def test_the_target_is_the_one_in_force_when_none_is_pending(self):
        world = handed(IN_FORCE_1, have_message(0, 1, 2), have_message(1, 2, 2))
        self.assertEqual(controller_of(world), [1, 0, 1, 0])

    def test_it_puts_nothing_in_force(self):
        calls = PENDING_2
        world = handed(calls, have_message(0, 1, 2), have_message(1, 2, 2))
        self.assertEqual(controller_of(world), [1, 1, 2, 0])


class Turned(unittest.TestCase):
    def test_the_greatest_is_kept(self):
        world = handed(EMPTY, turned_message(0, 1, 3))
        self.assertEqual(knows_of(world, 0), [1, 3, 0, 0])
        hand_over(world, turned_message(0, 1, 2))
        self.assertEqual(knows_of(world, 0), [1, 3, 0, 0])
        hand_over(world, turned_message(0, 1, 4))
        self.assertEqual(knows_of(world, 0), [1, 4, 0, 0])

    def test_in_force_when_every_switch_said_it(self):
        calls = EMPTY + [publish(RULE)]
        world = handed(calls, turned_message(1, 2, 1))
        self.assertEqual(controller_of(world), [0, 1, 0, 0])
        hand_over(world, turned_message(0, 1, 1))
        self.assertEqual(controller_of(world), [1, 0, 1, 0])

    def test_the_one_before_is_retired_at_now_and_life(self):
        calls = [begin(2, 99, 1000)] + IN_FORCE_1[1:] + [publish(), tick(7)]
        world = handed(calls, turned_message(0, 1, 2), turned_message(1, 2, 2))
        self.assertEqual(controller_of(world), [2, 0, 2, 1, 1, 1007])

    def test_the_next_one_is_put_behind_it(self):
        world = world_after(RETIRED_1 + [publish(), tick(3)])
        hand_over(world, turned_message(0, 1, 3))
        hand_over(world, turned_message(1, 2, 3))
        self.assertEqual(controller_of(world), [3, 0, 3, 2, 1, 10, 2, 13])

    def test_a_greater_one_counts(self):
        calls = EMPTY + [publish(RULE)]
        world = handed(calls, turned_message(0, 1, 5), turned_message(1, 2, 1))
        self.assertEqual(controller_of(world), [1, 0, 1, 0])

    def test_a_lesser_one_does_not(self):
        world = handed(PENDING_2, turned_message(0, 1, 2), turned_message(1, 2, 1))
        self.assertEqual(controller_of(world), [1, 1, 1, 0])

    def test_nothing_pending_nothing_in_force(self):
        world = handed(IN_FORCE_1, turned_message(0, 1, 2), turned_message(1, 2, 2))
        self.assertEqual(controller_of(world), [1, 0, 1, 0])

    def test_it_is_looked_at_after_have_and_gone_too(self):
        for message in (have_message(0, 1, 1), gone_message(0, 1, 9)):
            world = handed(EMPTY, turned_message(0, 1, 1), turned_message(1, 2, 1))
            world.controller.published.append([])
            world.controller.pending = True
            hand_over(world, message)
            self.assertEqual(controller_of(world), [1, 0, 1, 0])

    def test_past_the_clocks_end(self):
        calls = PENDING_2 + [work(), flow(), tick(2 ** 62), work(), flow()]
        self.assertEqual(controller_of(world_after(calls)), [2, 0, 2, 1, 1, 2 ** 62 + 10])


class Gone(unittest.TestCase):
    def test_it_is_kept(self):
        world = handed(RETIRED_1, gone_message(0, 1, 1))
        self.assertEqual(knows_of(world, 0), [1, 2, 2, 1, 2, 1, 1])
        self.assertEqual(knows_of(world, 1), [2, 2, 2, 1, 2, 0])
        self.assertEqual(controller_of(world), [2, 0, 2, 1, 1, 10])

    def test_retired_no_more_when_every_switch_said_it(self):
        world = handed(RETIRED_1, gone_message(0, 1, 1), gone_message(1, 2, 1))
        self.assertEqual(controller_of(world), [2, 0, 2, 0])

    def test_twice_from_one_switch_is_not_from_every_one(self):
        world = handed(RETIRED_1, gone_message(0, 1, 1), gone_message(0, 1, 1))
        self.assertEqual(controller_of(world), [2, 0, 2, 1, 1, 10])

    def test_the_others_stay_in_their_order(self):
        calls = RETIRED_1 + [publish()] + turn() + [publish()] + turn()
        world = handed(calls, gone_message(0, 1, 2), gone_message(1, 2, 2))
        self.assertEqual(controller_of(world), [4, 0, 4, 2, 1, 10, 3, 10])

    def test_of_a_later_version_does_not_count_for_an_earlier_one(self):
        world = handed(RETIRED_1, gone_message(0, 1, 2), gone_message(1, 2, 2))
        self.assertEqual(controller_of(world), [2, 0, 2, 1, 1, 10])

    def test_have_and_turned_stay(self):
        calls = RETIRED_1 + [tick(10), work(), flow()]
        self.assertEqual(knows_of(world_after(calls), 1), [2, 2, 2, 1, 2, 1, 1])

    def test_a_version_gone_everywhere_as_it_retires_does_not_stay(self):
        world = handed(PENDING_2, gone_message(0, 1, 1), gone_message(1, 2, 1), turned_message(0, 1, 2),
                       turned_message(1, 2, 2))
        self.assertEqual(controller_of(world), [2, 0, 2, 0])


if __name__ == "__main__":
    unittest.main()
