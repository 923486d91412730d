"""Call 11, enter."""

import unittest

from tests.helper import (GREATEST, LEAST, RULE, TIME_END, ask, begin, counts, deliver, enter, flow, hop, last, lose,
                          packets, publish, restart, tick, told, turn, work)

ALL = [-1, 0, 65535, 1]
# Keys 5 to 9 pass at every switch.
ROLLED = [begin(3, 99, 10, 2), publish(RULE)] + turn()


def counted(calls):
    """Entered, delivered, and dropped for the reasons 1 to 4."""
    return last(calls + [counts()])[3:]


class Answers(unittest.TestCase):
    def test_4_while_nothing_is_current(self):
        for before in ([begin()], [begin(), publish(ALL)], [begin(), publish(ALL), work(), flow()]):
            for call in (enter(7, 0), enter(7, 1, 0), enter(4, 0, 1, 0)):
                self.assertEqual(ask(before + [call, packets()])[-2:], [[4], [0, 0]])
                self.assertEqual(counted(before + [call]), [1, 0, 0, 0, 0, 1])

    def test_4_at_the_routes_first_switch_alone(self):
        # Switch 0 is turned, switch 1 isn't yet.
        calls = [begin(), publish(ALL), work(), flow(), work(), deliver(0)]
        self.assertEqual(ask(calls + [enter(7, 0), enter(7, 1), enter(7, 0, 1), enter(7, 1, 0)])[-4:],
                         [[5], [4], [0], [4]])

    def test_4_after_a_restart(self):
        self.assertEqual(ask(ROLLED + [restart(0), enter(7, 0), enter(7, 1, 0), enter(7, 2)])[-3:], [[4], [0], [5]])

    def test_5_with_one_switch(self):
        self.assertEqual(ask(ROLLED + [enter(7, 2), packets()])[-2:], [[5], [0, 0]])
        self.assertEqual(counted(ROLLED + [enter(7, 2)]), [1, 1, 0, 0, 0, 0])

    def test_0_with_more(self):
        calls = ROLLED + [tick(4), enter(7, 2, 0)]
        self.assertEqual(ask(calls + [packets()])[-2:], [[0], [0, 1, 7, 1, 1, 4, 2, 2, 0]])
        self.assertEqual(counted(calls), [1, 0, 0, 0, 0, 0])

    def test_1_where_the_rules_say_so(self):
        for call in (enter(4, 0), enter(10, 0), enter(4, 0, 1), enter(0, 2, 1, 0), enter(65535, 1)):
            self.assertEqual(ask(ROLLED + [call, packets()])[-2:], [[1], [0, 0]])
            self.assertEqual(counted(ROLLED + [call]), [1, 0, 1, 0, 0, 0])

    def test_the_edges_of_a_rule(self):
        told_by_key = [last(ROLLED + [enter(key, 0)]) for key in (4, 5, 9, 10)]
        self.assertEqual(told_by_key, [[1], [5], [5], [1]])

    def test_the_first_switch_alone_is_asked(self):
        calls = [begin(), publish([1, 7, 7, 0], ALL)] + turn()
        self.assertEqual(ask(calls + [enter(7, 0, 1), enter(7, 1, 0), enter(7, 1)])[-3:], [[0], [1], [1]])

    def test_a_version_without_rules_lets_nothing_pass(self):
        calls = [begin(1), publish()] + turn()
        self.assertEqual(ask(calls + [enter(0, 0), enter(65535, 0)])[-2:], [[1], [1]])

    def test_it_changes_the_packets_and_the_counts_alone(self):
        before = told(ROLLED)
        after = told(ROLLED + [enter(7, 0, 1)])
        self.assertEqual({name for name in before if before[name] != after[name]}, {"packets", "counts"})

    def test_the_rules_by_their_places_however_they_came(self):
        calls = [begin(1), publish([-1, 7, 7, 0], [-1, 5, 9, 1], [-1, 0, 65535, 0]), work()]
        for order in ((0, 0, 0), (2, 1, 0), (1, 1, 0), (2, 0, 0)):
            came = calls + [deliver(k) for k in order] + [flow(), work(), flow()]
            with self.subTest(order=order):
                self.assertEqual(ask(came + [enter(6, 0), enter(7, 0), enter(8, 0), enter(4, 0)])[-4:],
                                 [[5], [1], [5], [1]])

    def test_the_stamp_is_what_is_current_there(self):
        # Switch 0 is turned to version 2, switch 1 not yet; 2 lets only 4 pass.
        calls = ROLLED + [publish([-1, 4, 4, 1]), work(), flow(), work(), deliver(0)]
        self.assertEqual(ask(calls + [enter(4, 0, 1), enter(7, 1, 0), packets()])[-3:],
                         [[0], [0], [0, 2, 4, 1, 2, 0, 2, 0, 1, 7, 1, 1, 0, 2, 1, 0]])
        self.assertEqual(ask(calls + [enter(7, 0), enter(4, 1)])[-2:], [[1], [1]])

    def test_at_the_clocks_end(self):
        calls = ROLLED + [tick(TIME_END), enter(7, 0), enter(7, 0, 1), hop(), enter(7, 1, 1), packets()]
        self.assertEqual(ask(calls)[-5:], [[5], [0], [5], [0], [0, 1, 7, 1, 1, TIME_END, 2, 1, 1]])

    def test_with_the_shortest_life_it_is_not_too_old_as_it_comes(self):
        calls = [begin(1, 9, 1, 1), publish(ALL)] + turn() + [tick(5), enter(7, 0), enter(7, 0, 0), hop()]
        self.assertEqual(ask(calls)[-3:], [[5], [0], [5]])


class Keys(unittest.TestCase):
    def test_edges(self):
        calls = [begin(1), publish(ALL)] + turn()
        for key, answer in [(-1, -1), (0, 5), (65535, 5), (65536, -1), (LEAST, -1), (GREATEST, -1)]:
            with self.subTest(key=key):
                self.assertEqual(last(calls + [enter(key, 0)]), [answer])


class Routes(unittest.TestCase):
    def test_how_many_switches(self):
        for size, answer in [(0, -1), (1, 5), (2, 0), (8, 0), (9, -1), (10, -1), (127, -1), (128, -1)]:
            with self.subTest(size=size):
                self.assertEqual(last(ROLLED + [enter(7, *[1] * size)]), [answer])

    def test_each_number_is_a_switch(self):
        for wrong in (-1, 3, 4, LEAST, GREATEST):
            for route in ([wrong], [wrong, 0], [0, wrong], [0, wrong, 0], [0] * 7 + [wrong], [0] * 127 + [wrong]):
                with self.subTest(route=route):
                    self.assertEqual(last(ROLLED + [enter(7, *route)]), [-1])

    def test_the_last_switch(self):
        for n in (1, 2, 16):
            calls = [begin(n), publish(ALL)] + turn()
            self.assertEqual(ask(calls + [enter(7, n - 1), enter(7, n), enter(7, 0, n - 1), enter(7, 0, n)])[-4:],
                             [[5], [-1], [0], [-1]])

    def test_eight_switches_are_kept_in_order(self):
        calls = [begin(8), publish(ALL)] + turn() + [enter(9, 7, 0, 6, 1, 5, 2, 4, 3), packets()]
        self.assertEqual(last(calls), [0, 1, 9, 1, 1, 0, 8, 7, 0, 6, 1, 5, 2, 4, 3])

    def test_one_switch_twice(self):
        calls = ROLLED + [enter(7, 1, 1, 0, 1), packets()]
        self.assertEqual(last(calls), [0, 1, 7, 1, 1, 0, 4, 1, 1, 0, 1])


class Room(unittest.TestCase):
    FULL = ROLLED + [enter(5, 0, 1), enter(6, 1, 2)]

    def test_no_third_one_in_a_room_of_two(self):
        self.assertEqual(ask(self.FULL)[-2:], [[0], [0]])
        for call in (enter(7, 0, 1), enter(7, 0), enter(4, 0)):
            self.assertEqual(last(self.FULL + [call]), [-2])

    def test_though_nothing_is_current(self):
        self.assertEqual(ask(self.FULL + [restart(0), enter(7, 0)])[-1], [-2])

    def test_one_that_is_not_under_way_takes_no_room(self):
        self.assertEqual(ask(ROLLED + [enter(7, 0), enter(4, 0), enter(5, 0, 1), enter(7, 0), enter(6, 1, 2)])[-5:],
                         [[5], [1], [0], [5], [0]])

    def test_there_is_room_when_one_has_gone(self):
        self.assertEqual(ask(self.FULL + [hop(0), enter(7, 0, 1), enter(7, 0, 1)])[-3:], [[5], [0], [-2]])

    def test_the_least_and_the_greatest_room(self):
        for room in (1, 256):
            calls = [begin(1, 9, 9, room), publish(ALL)] + turn() + [enter(7, 0, 0)] * (room + 1)
            self.assertEqual(ask(calls)[6:], [[0]] * room + [[-2]])

    def test_what_is_wrong_is_looked_at_first(self):
        for call in (enter(-1, 0), enter(65536, 0), enter(7), enter(7, 3), enter(7, *[0] * 9), enter(7, -1)):
            self.assertEqual(last(self.FULL + [call]), [-1])

    def test_a_refused_one_changes_nothing(self):
        for before in (ROLLED, self.FULL, [begin(3)]):
            for call in (enter(-1, 0), enter(65536, 0), enter(7), enter(7, 3), enter(7, *[0] * 9), enter(7, 0, -1)):
                self.assertEqual(told(before + [call]), told(before))
        for call in (enter(7, 0, 1), enter(7, 0), enter(4, 0)):
            self.assertEqual(told(self.FULL + [call]), told(self.FULL))


class LostOnTheWay(unittest.TestCase):
    def test_a_switch_without_the_version_does_not_matter_before_the_packet_is_there(self):
        calls = ROLLED + [restart(1), lose(0), enter(7, 0, 1)]
        self.assertEqual(last(calls), [0])


if __name__ == "__main__":
    unittest.main()
