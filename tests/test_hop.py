"""Call 12, hop, and what a packet meets on its way."""

import unittest

from policyturn.answering import answer_call
from policyturn.handing import hand_over
from tests.helper import (GREATEST, LEAST, RULE, ask, begin, counts, crash, deliver, drop_message, enter, flow, hop,
                          last, packets, publish, restart, switch, tick, told, turn, work, world_after)

ALL = [-1, 0, 65535, 1]
ONLY_4 = [-1, 4, 4, 1]
ROLLED = [begin(3, 99, 10, 9), publish(RULE)] + turn()
ON_ITS_WAY = ROLLED + [enter(7, 0, 1, 2)]
NONE = [0, 0]


def counted(calls):
    """Entered, delivered, and dropped for the reasons 1 to 4."""
    return last(calls + [counts()])[3:]


class Answers(unittest.TestCase):
    def test_0_and_then_5(self):
        self.assertEqual(ask(ON_ITS_WAY + [packets(), hop(), packets(), hop(), packets()])[-5:], [
            [0, 1, 7, 1, 1, 0, 3, 0, 1, 2], [0], [0, 1, 7, 2, 1, 0, 3, 0, 1, 2], [5], NONE])
        self.assertEqual(counted(ON_ITS_WAY + [hop()]), [1, 0, 0, 0, 0, 0])
        self.assertEqual(counted(ON_ITS_WAY + [hop(), hop()]), [1, 1, 0, 0, 0, 0])

    def test_1_where_the_rules_say_so(self):
        # 7 passes at 0 and 1, and not at 2.
        calls = [begin(3), publish([2, 7, 7, 0], ALL)] + turn() + [enter(7, 0, 1, 2), hop()]
        self.assertEqual(ask(calls + [hop(), packets()])[-3:], [[0], [1], NONE])
        self.assertEqual(counted(calls + [hop()]), [1, 0, 1, 0, 0, 0])
        # And in the midst of a route.
        calls = [begin(3), publish([2, 7, 7, 0], ALL)] + turn() + [enter(7, 0, 2, 1), hop(), packets()]
        self.assertEqual(ask(calls)[-2:], [[1], NONE])

    def test_2_where_the_version_is_not_there(self):
        calls = ON_ITS_WAY + [restart(1), hop()]
        self.assertEqual(ask(calls + [packets()])[-2:], [[2], NONE])
        self.assertEqual(counted(calls), [1, 0, 0, 1, 0, 0])

    def test_2_where_it_is_not_whole(self):
        calls = [begin(2), publish(RULE, ALL)] + turn() + [enter(7, 0, 1), restart(1), flow(), work()]
        self.assertEqual(ask(calls + [deliver(0), switch(1), hop()])[-2:], [[0, 3, 0, 0, 1, 1, 2, 1], [2]])
        # Whole it is enough, though it's not current there.
        self.assertEqual(ask(calls + [deliver(0), deliver(0), switch(1), hop()])[-2:], [[0, 3, 0, 0, 1, 1, 2, 2], [5]])

    def test_2_where_only_another_version_is_whole(self):
        # Version 1 is retired and not sent any more to switch 1, which starts anew.
        calls = ROLLED + [enter(7, 0, 1), publish(ALL)] + turn() + [restart(1), flow()] + turn()
        self.assertEqual(ask(calls + [switch(1), hop()])[-2:], [[0, 4, 2, 0, 1, 2, 1, 1], [2]])

    def test_2_before_1(self):
        calls = [begin(2), publish([1, 7, 7, 0], ALL)] + turn() + [enter(7, 0, 1)]
        self.assertEqual(last(calls + [hop()]), [1])
        self.assertEqual(last(calls + [restart(1), hop()]), [2])

    def test_3_when_it_is_too_old(self):
        for life in (1, 2, 10, 1000000):
            calls = [begin(2, 99, life), publish(RULE)] + turn() + [tick(3), enter(7, 0, 1)]
            if life > 1:
                self.assertEqual(ask(calls + [tick(life - 1), hop(), packets()])[-2:], [[5], NONE])
            for seconds in (life, life + 1, 2 ** 62 - 3):
                self.assertEqual(ask(calls + [tick(seconds), hop(), packets()])[-2:], [[3], NONE])
                self.assertEqual(counted(calls + [tick(seconds), hop()]), [1, 0, 0, 0, 1, 0])

    def test_3_between_two_hops(self):
        calls = ON_ITS_WAY + [tick(8), hop()]
        self.assertEqual(ask(calls + [tick(1), hop(), packets()])[-4:], [[0], [0], [5], NONE])
        self.assertEqual(ask(calls + [tick(2), hop(), packets()])[-4:], [[0], [0], [3], NONE])

    def test_a_hop_makes_it_no_younger(self):
        calls = ON_ITS_WAY + [tick(5), hop(), packets()]
        self.assertEqual(last(calls), [0, 1, 7, 2, 1, 0, 3, 0, 1, 2])

    def test_3_before_2_and_1(self):
        self.assertEqual(last(ON_ITS_WAY + [restart(1), tick(9), hop()]), [2])
        self.assertEqual(last(ON_ITS_WAY + [restart(1), tick(10), hop()]), [3])
        calls = [begin(2), publish([1, 7, 7, 0], ALL)] + turn() + [enter(7, 0, 1)]
        self.assertEqual(last(calls + [tick(9), hop()]), [1])
        self.assertEqual(last(calls + [tick(10), hop()]), [3])

    def test_the_switch_it_comes_from_does_not_matter_any_more(self):
        self.assertEqual(ask(ON_ITS_WAY + [restart(0), hop(), restart(1), hop()])[-4:], [[4], [0], [5], [5]])

    def test_it_changes_the_packets_and_the_counts_alone(self):
        for calls, changed in [(ON_ITS_WAY, {"packets"}), (ON_ITS_WAY + [hop()], {"packets", "counts"}),
                               (ON_ITS_WAY + [tick(10)], {"packets", "counts"})]:
            before = told(calls)
            after = told(calls + [hop()])
            self.assertEqual({name for name in before if before[name] != after[name]}, changed)


class Stamps(unittest.TestCase):
    def test_it_goes_by_its_stamp_when_the_switches_are_turned(self):
        # Version 2 lets 4 pass and not 7.
        calls = ON_ITS_WAY + [publish(ONLY_4)] + turn()
        self.assertEqual(ask(calls + [hop(), packets(), hop()])[-3:], [[0], [0, 1, 7, 2, 1, 0, 3, 0, 1, 2], [5]])
        self.assertEqual(ask(calls + [enter(7, 0, 1), enter(4, 0, 1), packets()])[-3:],
                         [[1], [0], [0, 2, 7, 1, 1, 0, 3, 0, 1, 2, 4, 1, 2, 0, 2, 0, 1]])

    def test_it_does_not_pass_where_only_the_next_version_would_let_it(self):
        calls = [begin(2), publish([1, 7, 7, 0], ALL)] + turn() + [enter(7, 0, 1), publish(ALL)] + turn()
        self.assertEqual(last(calls + [hop()]), [1])

    def test_turned_one_after_the_other(self):
        calls = ROLLED + [publish(ONLY_4), work(), flow(), work(), deliver(0)]
        # Switch 0 is turned to 2; from there on the others go by it too, though they're turned to 1.
        self.assertEqual(ask(calls + [enter(4, 0, 1, 2), hop(), hop()])[-3:], [[0], [0], [5]])
        # And what came in at 1 goes by 1 at switch 0 too.
        self.assertEqual(ask(calls + [enter(7, 1, 0, 1), hop(), hop()])[-3:], [[0], [0], [5]])
        self.assertEqual(ask(calls + [enter(7, 0, 1), enter(4, 1, 0)])[-2:], [[1], [1]])

    def test_between_two_hops(self):
        calls = ON_ITS_WAY + [publish(ONLY_4), work(), flow(), work(), deliver(0), hop(), flow(), hop()]
        self.assertEqual([ask(calls)[-3], ask(calls)[-1]], [[0], [5]])

    def test_when_its_version_is_retired_and_not_yet_dropped(self):
        calls = ROLLED + [publish(ONLY_4), work(), flow(), work(), tick(5), deliver(0), enter(7, 1, 0), flow(), tick(9),
                          work(), flow()]
        # It came in at 5 and version 1 may go from 15 on; now is 14.
        self.assertEqual(ask(calls + [switch(0), hop()])[-2:], [[0, 1, 2, 0, 2, 1, 1, 1, 2, 1, 1], [5]])

    def test_when_its_version_was_dropped_on_the_way(self):
        calls = ROLLED + [publish(ONLY_4), work(), flow(), work(), tick(5), deliver(0), enter(7, 1, 0), flow(),
                          tick(10), work(), flow()]
        # A second later both have come: version 1 is gone, and the packet is too old, which is looked at first.
        self.assertEqual(ask(calls + [switch(0), hop(), packets()])[-3:], [[0, 1, 2, 1, 1, 2, 1, 1], [3], NONE])
        self.assertEqual(counted(calls + [hop()]), [1, 0, 0, 0, 1, 0])

    def test_a_restart_and_the_rows_again(self):
        calls = ON_ITS_WAY + [restart(1), flow()]
        self.assertEqual(last(calls + [hop()]), [2])
        self.assertEqual(last(calls + [work(), flow(), hop()]), [0])

    def test_a_crash_does_not_matter_to_it(self):
        self.assertEqual(ask(ON_ITS_WAY + [crash(), hop(), crash(), hop()])[-3:], [[0], [0], [5]])

    def test_the_rules_by_their_places_however_they_came(self):
        calls = [begin(2), publish([-1, 7, 7, 0], [-1, 5, 9, 1]), work(), deliver(3), deliver(2), flow(), work(),
                 flow()]
        # Switch 1 had the second rule before the first.
        calls += [restart(0), flow(), work(), deliver(1), deliver(0), flow(), work(), flow()]
        self.assertEqual(ask(calls + [enter(6, 1, 0, 1), enter(7, 1, 0), enter(7, 0, 1), hop(), hop()])[-5:],
                         [[0], [1], [1], [0], [5]])


class DroppedBeforeItsTime(unittest.TestCase):
    """No line of calls drops a version that a packet may still go by: the message is made here."""

    def test_enter_answers_2_where_what_is_current_is_not_there(self):
        world = world_after(ROLLED)
        hand_over(world, drop_message(0, 1, 1))
        self.assertEqual(answer_call(world, 11, [7, 0, 1]), [2])
        self.assertEqual(answer_call(world, 18, []), NONE)
        self.assertEqual(answer_call(world, 19, []), [0, 0, 0, 1, 0, 0, 1, 0, 0])

    def test_hop_answers_2(self):
        world = world_after(ON_ITS_WAY)
        hand_over(world, drop_message(1, 2, 1))
        self.assertEqual(answer_call(world, 12, [0]), [2])
        self.assertEqual(answer_call(world, 18, []), NONE)
        self.assertEqual(answer_call(world, 19, []), [0, 0, 0, 1, 0, 0, 1, 0, 0])


class Routes(unittest.TestCase):
    def test_eight_switches(self):
        calls = [begin(8), publish(RULE)] + turn() + [enter(7, 7, 0, 6, 1, 5, 2, 4, 3)] + [hop()] * 8
        self.assertEqual(ask(calls)[6:], [[0]] * 7 + [[5], [-1]])

    def test_each_of_eight_in_turn(self):
        # Only the switch at that place of the route doesn't let it pass.
        route = [7, 0, 6, 1, 5, 2, 4, 3]
        for place in range(1, 8):
            calls = [begin(8), publish([route[place], 7, 7, 0], ALL)] + turn() + [enter(7, *route)] + [hop()] * place
            with self.subTest(place=place):
                self.assertEqual(ask(calls)[6:], [[0]] * place + [[1]])

    def test_one_switch_again_and_again(self):
        calls = [begin(1), publish(RULE)] + turn() + [enter(7, *[0] * 8)] + [hop()] * 7
        self.assertEqual(ask(calls)[6:], [[0]] * 7 + [[5]])

    def test_one_switch_twice(self):
        calls = ROLLED + [enter(7, 0, 1, 0), hop()]
        self.assertEqual(ask(calls + [hop(), packets()])[-3:], [[0], [5], NONE])
        self.assertEqual(ask(calls + [restart(0), hop()])[-1], [2])


class Places(unittest.TestCase):
    THREE = ROLLED + [enter(5, 0, 1, 2), tick(1), enter(6, 1, 2, 0), tick(1), enter(7, 2, 0, 1)]
    FIRST, SECOND, THIRD = [5, 1, 1, 0, 3, 0, 1, 2], [6, 1, 1, 1, 3, 1, 2, 0], [7, 1, 1, 2, 3, 2, 0, 1]

    def test_edges(self):
        for k, answer in [(-1, -1), (0, 0), (1, 0), (2, 0), (3, -1), (-3, -1), (LEAST, -1), (GREATEST, -1)]:
            with self.subTest(k=k):
                self.assertEqual(last(self.THREE + [hop(k)]), [answer])

    def test_no_packet_no_place(self):
        for before in ([begin()], ROLLED, ROLLED + [enter(7, 0)]):
            for k in (-1, 0, 1):
                self.assertEqual(last(before + [hop(k)]), [-1])

    def test_a_refused_one_changes_nothing(self):
        for before in ([begin()], ROLLED, self.THREE):
            for k in (-1, 3, LEAST, GREATEST):
                self.assertEqual(told(before + [hop(k)]), told(before))

    def test_it_keeps_its_place(self):
        for k in range(3):
            rows = [list(row) for row in (self.FIRST, self.SECOND, self.THIRD)]
            rows[k][1] = 2
            self.assertEqual(last(self.THREE + [hop(k), packets()]), [0, 3] + rows[0] + rows[1] + rows[2])

    def test_the_others_move_up_when_one_has_gone(self):
        for k in range(3):
            rows = [self.FIRST, self.SECOND, self.THIRD]
            rows.pop(k)
            self.assertEqual(ask(self.THREE + [hop(k), hop(k), packets()])[-2:], [[5], [0, 2] + rows[0] + rows[1]])

    def test_and_so_when_it_is_dropped(self):
        calls = self.THREE + [tick(9)]
        # The first is 11 seconds old, the second 10, the third 9.
        self.assertEqual(ask(calls + [hop(1), packets()])[-2:], [[3], [0, 2] + self.FIRST + self.THIRD])
        self.assertEqual(ask(calls + [hop(1), hop(1), hop(0), packets()])[-4:],
                         [[3], [0], [3], [0, 1, 7, 2, 1, 2, 3, 2, 0, 1]])

    def test_time_alone_takes_none_away(self):
        self.assertEqual(last(self.THREE + [tick(100), packets()]), [0, 3] + self.FIRST + self.SECOND + self.THIRD)

    def test_a_new_one_comes_at_the_end(self):
        calls = self.THREE + [hop(0), hop(0), enter(8, 0, 0), packets()]
        self.assertEqual(last(calls), [0, 3] + self.SECOND + self.THIRD + [8, 1, 1, 2, 2, 0, 0])


if __name__ == "__main__":
    unittest.main()
