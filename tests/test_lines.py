"""Longer lines of calls, through answers: what the net does to a rollout."""

import unittest

from tests.helper import (RULE, ask, begin, bag_of, controller_of, deliver, double, flow, hello, knows_of, last, lose,
                          publish, restart, switch_of, tick, turn, work, world_after)


class Lines(unittest.TestCase):
    def test_a_second_version_over_a_first(self):
        calls = [begin(3, 99, 10), publish(RULE, RULE)] + turn() + [tick(4), publish(RULE)] + turn()
        # Two rows to each of three switches, one have of each; then one row and one have of each.
        self.assertEqual(ask(calls), [[0], [1], [0], [0, 9], [0], [0, 6], [0], [2], [0], [0, 6], [0], [0, 6]])
        world = world_after(calls)
        self.assertEqual(controller_of(world), [2, 0, 2, 1, 1, 14])
        for x in range(3):
            self.assertEqual(switch_of(world, x), [x + 1, 2, 0, 2, 1, 2, 2, 2, 1, 1])

    def test_a_retired_version_goes_after_its_time(self):
        calls = [begin(2, 99, 10), publish(RULE)] + turn() + [publish(RULE)] + turn()
        told = ask(calls + [tick(9), work(), flow(), tick(1), work(), flow(), work(), flow()])
        self.assertEqual(told[-8:], [[0], [0], [0, 0], [0], [0], [0, 4], [0], [0, 0]])
        world = world_after(calls + [tick(10), work(), flow()])
        self.assertEqual(controller_of(world), [2, 0, 2, 0])
        self.assertEqual([switch_of(world, x) for x in (0, 1)], [[1, 2, 1, 1, 2, 1, 1], [2, 2, 1, 1, 2, 1, 1]])

    def test_a_drop_lost_is_sent_again(self):
        calls = [begin(2, 99, 10), publish(RULE)] + turn() + [publish(RULE)] + turn() + [tick(10), work(), lose(1)]
        self.assertEqual(ask(calls + [flow(), work(), flow(), work(), flow()])[-5:], [[0, 2], [0], [0, 2], [0], [0, 0]])

    def test_two_retired_versions_go_one_after_the_other(self):
        calls = [begin(1, 99, 10)]
        for _ in range(3):
            calls += [publish(RULE)] + turn() + [tick(3)]
        # Versions 1 and 2 may go from 13 and 16 on; now is 9.
        told = ask(calls + [tick(3), work(), flow(), tick(1), work(), flow(), tick(3), work(), flow()])
        self.assertEqual(told[-9:], [[0], [0], [0, 0], [0], [0], [0, 2], [0], [0], [0, 2]])

    def test_a_row_of_a_dropped_version_comes_late(self):
        calls = [begin(1, 99, 10), publish(RULE), work(), double(0), deliver(0), deliver(1), work(), deliver(1),
                 deliver(1)]
        # The doubled row of version 1 has stayed at place 0.
        calls += [publish(), work(), deliver(1), deliver(1), work(), deliver(1), deliver(1), tick(10), work(),
                  deliver(1), deliver(1)]
        world = world_after(calls)
        self.assertEqual(bag_of(world), [[0, 0, 1, 1, 0, 1] + RULE])
        self.assertEqual(switch_of(world, 0), [1, 2, 1, 1, 2, 0, 0])
        self.assertEqual(ask(calls + [flow(), flow()])[-2:], [[0, 1], [0, 0]])
        self.assertEqual(switch_of(world_after(calls + [flow()]), 0), [1, 2, 1, 1, 2, 0, 0])

    def test_restart_in_the_midst_before_the_flips(self):
        calls = [begin(2), publish(RULE), work(), flow(), restart(1), work()]
        # The flip for switch 1 bears its start of before; the hello comes first, the flip to 1 does nothing.
        self.assertEqual(ask(calls + [flow()])[4:], [[3], [0], [0, 4]])
        world = world_after(calls + [flow()])
        self.assertEqual(controller_of(world), [0, 1, 0, 0])
        self.assertEqual([switch_of(world, x) for x in (0, 1)], [[1, 1, 0, 1, 1, 1, 1], [3, 0, 0, 0]])
        rest = [publish(), work(), flow(), work(), flow(), publish()]
        self.assertEqual(ask(calls + [flow()] + rest)[-6:], [[-2], [0], [0, 2], [0], [0, 2], [2]])

    def test_restart_in_the_midst_with_turned_under_way(self):
        # Switch 1 was turned, but starts anew before its word comes, and that word bears the start of before.
        calls = [begin(2), publish(RULE), work(), flow(), work(), flow(2), restart(1)]
        self.assertEqual(bag_of(world_after(calls)), [[5, 0, 1, 1], [5, 1, 2, 1], [3, 1, 3]])
        late = calls + [deliver(2), flow()]
        self.assertEqual(controller_of(world_after(late)), [0, 1, 0, 0])
        # The word before the hello is still believed: version 1 is in force, and goes to the new start after that.
        early = calls + [flow()]
        self.assertEqual(controller_of(world_after(early)), [1, 0, 1, 0])
        self.assertEqual(ask(early + turn())[-4:], [[0], [0, 2], [0], [0, 2]])
        self.assertEqual(switch_of(world_after(early + turn()), 1), [3, 1, 0, 1, 1, 1, 1])

    def test_restart_with_a_version_in_force_and_one_pending(self):
        calls = [begin(2), publish(RULE)] + turn() + [publish(RULE, RULE), restart(0), flow()]
        told = ask(calls + [work(), flow(), work(), flow(), publish()])
        # To switch 0 one row of version 1 and two of 2, to switch 1 two of 2; have 1, have 2, have 2.
        self.assertEqual(told[-5:], [[0], [0, 8], [0], [0, 4], [3]])
        world = world_after(calls + turn())
        self.assertEqual(switch_of(world, 0), [3, 2, 0, 2, 1, 1, 1, 2, 2, 2])
        self.assertEqual(controller_of(world), [2, 0, 2, 1, 1, 10])

    def test_restart_after_a_drop_has_floor_0(self):
        calls = [begin(1, 99, 1), publish(RULE)] + turn() + [publish(RULE)] + turn() + [tick(1), work(), flow(),
                                                                                       restart(0), flow()] + turn()
        self.assertEqual(switch_of(world_after(calls), 0), [2, 2, 0, 1, 2, 1, 1])
        self.assertEqual(ask(calls)[-5:], [[0, 1], [0], [0, 2], [0], [0, 2]])

    def test_a_switch_that_started_anew_is_told_the_drop_again(self):
        calls = [begin(2, 99, 1), publish(RULE)] + turn() + [publish(RULE)] + turn() + [tick(1), work(), lose(1), flow()]
        self.assertEqual(controller_of(world_after(calls)), [2, 0, 2, 1, 1, 1])
        calls += [restart(0), flow(), work()]
        self.assertEqual(bag_of(world_after(calls)), [[0, 0, 3, 2, 0, 1] + RULE, [2, 0, 3, 1], [2, 1, 2, 1]])
        self.assertEqual(controller_of(world_after(calls + [flow()])), [2, 0, 2, 0])

    def test_messages_lost(self):
        calls = [begin(2), publish(RULE, RULE), work(), lose(0), lose(2), flow()]
        # Each switch has one row of two and says nothing.
        self.assertEqual(last(calls), [0, 2])
        # Four rows again. Switch 0 is whole with its first and says so twice, switch 1 is whole with its second.
        self.assertEqual(ask(calls + [work(), flow()])[-1], [0, 7])
        world = world_after(calls + [work(), flow()])
        self.assertEqual([knows_of(world, x) for x in (0, 1)], [[1, 0, 1, 1, 0], [2, 0, 1, 1, 0]])

    def test_a_have_lost(self):
        calls = [begin(1), publish(RULE), work(), deliver(0), lose(0)]
        self.assertEqual(ask(calls + [work(), flow(), work(), flow()])[-3:], [[0, 2], [0], [0, 2]])

    def test_a_turned_lost(self):
        calls = [begin(1), publish(RULE), work(), flow(), work(), deliver(0), lose(0), publish(), work(), flow(),
                 publish()]
        self.assertEqual(ask(calls)[-4:], [[-2], [0], [0, 2], [2]])

    def test_messages_doubled(self):
        calls = [begin(1), publish(RULE), work(), double(0), double(0), flow()]
        # Three rows, three haves.
        self.assertEqual(last(calls), [0, 6])
        self.assertEqual(ask(calls + [work(), double(0), flow(), publish()])[-2:], [[0, 4], [2]])

    def test_messages_out_of_order(self):
        calls = [begin(1), publish(RULE, [0, 1, 1, 0], [-1, 0, 0, 1]), work(), deliver(2), deliver(0), deliver(0)]
        world = world_after(calls)
        self.assertEqual(bag_of(world), [[4, 0, 1, 1]])
        self.assertEqual(sorted(world.switches[0].parts[1].came.items()),
                         [(0, (-1, 5, 9, 1)), (1, (0, 1, 1, 0)), (2, (-1, 0, 0, 1))])

    def test_a_row_and_a_flip_for_the_start_before(self):
        calls = [begin(1), publish(RULE), work(), double(0), flow(1), deliver(1), work(), restart(0), deliver(2)]
        self.assertEqual(bag_of(world_after(calls)), [[0, 0, 1, 1, 0, 1] + RULE, [1, 0, 1, 1]])
        self.assertEqual(ask(calls + [flow(), work(), flow(), work(), flow()])[-5:], [[0, 2], [0], [0, 2], [0], [0, 2]])

    def test_hellos_out_of_order(self):
        calls = [begin(1), publish(RULE), restart(0), restart(0), deliver(1), work(), flow()]
        # The hello of the second start came first; the one of the first start does nothing then.
        self.assertEqual(ask(calls)[2:], [[2], [3], [0], [0], [0, 3]])
        self.assertEqual(knows_of(world_after(calls), 0), [3, 0, 1, 1, 0])

    def test_a_full_bag_throughout(self):
        calls = [begin(4, 3), publish(RULE)]
        for _ in range(6):
            calls += [work(), flow()]
        # Three rows fit, then the fourth; then three flips, then the fourth.
        self.assertEqual(ask(calls)[2:], [[0], [0, 6], [0], [0, 2], [0], [0, 6], [0], [0, 2], [0], [0, 0], [0], [0, 0]])
        world = world_after(calls)
        self.assertEqual(world.lost, 2)
        self.assertEqual(controller_of(world), [1, 0, 1, 0])

    def test_a_version_without_rules_is_rolled_out_too(self):
        calls = [begin(2), publish()] + turn() + [publish()] + turn()
        self.assertEqual(ask(calls)[1:], [[1], [0], [0, 4], [0], [0, 4], [2], [0], [0, 4], [0], [0, 4]])

    def test_sixteen_switches_with_sixteen_rules(self):
        calls = [begin(16, 4096, 1, 1), publish(*[RULE] * 16)] + turn() + [publish(RULE)]
        self.assertEqual(ask(calls)[2:], [[0], [0, 16 * 17], [0], [0, 32], [2]])

    def test_eighty_versions(self):
        calls = [begin(16, 4096, 1000000, 1)]
        for _ in range(79):
            calls += [publish(RULE)] + turn()
        calls += [tick(1000000), work(), flow()]
        told = ask(calls)
        self.assertEqual(told[1::5][:79], [[number + 1] for number in range(79)])
        self.assertEqual(told[-1], [0, 2 * 16 * 78])
        self.assertEqual(controller_of(world_after(calls)), [79, 0, 79, 0])

    def test_hello_of_a_known_start_forgets_nothing(self):
        calls = [begin(2), publish(RULE)] + turn() + [hello(0), hello(1), flow(), work(), flow()]
        self.assertEqual(ask(calls)[-3:], [[0, 2], [0], [0, 0]])


if __name__ == "__main__":
    unittest.main()
