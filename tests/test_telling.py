"""Calls 14 to 19: switch, knows, controller, bag, packets, counts."""

import unittest

from tests.helper import (GREATEST, LEAST, RULE, ask, bag, begin, controller, counts, crash, deliver, double, enter,
                          flow, hello, hop, knows, last, lose, messages_after, packets, publish, restart, switch,
                          tick, told, turn, work)

IN_FORCE = [begin(2, 99, 10, 9), publish(RULE)] + turn()
# Version 1 is in force; 2 is pending and has two rules; switch 0 has started anew, and its rows are in the bag:
# that of 1, then the two of 2, then two for switch 1.
ANEW = IN_FORCE + [publish(RULE, RULE), restart(0), flow(), work()]
# Versions 1, 2 and 3 are retired, from 10, 13 and 16 on; 4 is in force; now is 9.
FOUR = [begin(2, 99, 10, 9), publish(RULE)] + turn() + [publish()] + turn() + [
    tick(3), publish(RULE)] + turn() + [tick(3), publish(RULE, RULE)] + turn() + [tick(3)]


class NoSwitch(unittest.TestCase):
    def test_both_calls(self):
        for call in (switch, knows):
            for n in (1, 2, 16):
                for x in (-1, n, n + 1, LEAST, GREATEST):
                    with self.subTest(call=call.__name__, n=n, x=x):
                        self.assertEqual(last([begin(n), call(x)]), [-1])
                        self.assertEqual(told([begin(n), call(x)]), told([begin(n)]))
                for x in (0, n - 1):
                    self.assertEqual(last([begin(n), call(x)]), [0, x + 1, 0, 0, 0])


class Switch(unittest.TestCase):
    def test_with_one_version(self):
        self.assertEqual(last(IN_FORCE + [switch(1)]), [0, 2, 1, 0, 1, 1, 1, 1])

    def test_a_version_without_rules(self):
        calls = [begin(), publish(), work(), switch(0), deliver(0), switch(0), switch(1)]
        self.assertEqual(ask(calls)[3:], [[0, 1, 0, 0, 0], [0], [0, 1, 0, 0, 1, 1, 0, 0], [0, 2, 0, 0, 0]])

    def test_how_many_of_its_rules_came(self):
        calls = [begin(1), publish(RULE, RULE, RULE), work(), double(0)]
        steps = [deliver(0), switch(0), deliver(1), switch(0), deliver(1), switch(0), deliver(0), switch(0)]
        self.assertEqual(ask(calls + steps)[5::2], [
            [0, 1, 0, 0, 1, 1, 3, 1], [0, 1, 0, 0, 1, 1, 3, 2], [0, 1, 0, 0, 1, 1, 3, 2], [0, 1, 0, 0, 1, 1, 3, 3]])

    def test_versions_that_came_in_another_order(self):
        steps = [switch(0), deliver(1), switch(0), deliver(0), switch(0), deliver(0), switch(0)]
        self.assertEqual(ask(ANEW + steps)[-7::2], [
            [0, 3, 0, 0, 0], [0, 3, 0, 0, 1, 2, 2, 1], [0, 3, 0, 0, 2, 1, 1, 1, 2, 2, 1],
            [0, 3, 0, 0, 2, 1, 1, 1, 2, 2, 2]])

    def test_some_whole_and_some_not(self):
        calls = IN_FORCE + [publish(RULE, RULE), work(), deliver(0), switch(0), switch(1)]
        self.assertEqual(ask(calls)[-2:], [[0, 1, 1, 0, 2, 1, 1, 1, 2, 2, 1], [0, 2, 1, 0, 1, 1, 1, 1]])

    def test_four_versions(self):
        self.assertEqual(last(FOUR + [switch(0)]), [0, 1, 4, 0, 4, 1, 1, 1, 2, 0, 0, 3, 1, 1, 4, 2, 2])

    def test_after_a_drop(self):
        calls = FOUR + [tick(1), work(), flow(), switch(0)]
        self.assertEqual(last(calls), [0, 1, 4, 1, 3, 2, 0, 0, 3, 1, 1, 4, 2, 2])
        calls = FOUR + [tick(7), work(), deliver(2), switch(0), switch(1)]
        self.assertEqual(ask(calls)[-2:], [[0, 1, 4, 3, 1, 4, 2, 2], last(FOUR + [switch(1)])])

    def test_after_a_restart(self):
        self.assertEqual(ask(FOUR + [restart(0), switch(0), restart(1), switch(1), switch(0)])[-5:],
                         [[3], [0, 3, 0, 0, 0], [4], [0, 4, 0, 0, 0], [0, 3, 0, 0, 0]])

    def test_current_as_the_flip_comes(self):
        calls = [begin(2), publish(RULE), work(), flow(), work(), deliver(1), switch(0), switch(1)]
        self.assertEqual(ask(calls)[-2:], [[0, 1, 0, 0, 1, 1, 1, 1], [0, 2, 1, 0, 1, 1, 1, 1]])


class Knows(unittest.TestCase):
    def test_have_and_turned(self):
        calls = [begin(), publish(RULE), work(), knows(0), flow(), knows(0), work(), knows(1), flow(), knows(1)]
        self.assertEqual(ask(calls)[3::2],
                         [[0, 1, 0, 0, 0], [0, 1, 0, 1, 1, 0], [0, 2, 0, 1, 1, 0], [0, 2, 1, 1, 1, 0]])

    def test_haves_that_came_in_another_order(self):
        calls = ANEW + [deliver(1), deliver(1), deliver(0)]
        self.assertEqual(messages_after(calls)[2:], [[4, 0, 3, 2], [4, 0, 3, 1]])
        self.assertEqual(ask(calls + [deliver(2), knows(0), deliver(2), knows(0)])[-3::2],
                         [[0, 3, 0, 1, 2, 0], [0, 3, 0, 2, 1, 2, 0]])

    def test_gones_that_came_in_another_order(self):
        calls = FOUR + [tick(7), work(), deliver(2), deliver(0), deliver(0)]
        self.assertEqual(messages_after(calls)[3:], [[6, 0, 1, 3], [6, 0, 1, 1], [6, 0, 1, 2]])
        steps = [deliver(3), knows(0), deliver(4), knows(0), deliver(3), knows(0)]
        self.assertEqual(ask(calls + steps)[-5::2], [
            [0, 1, 4, 4, 1, 2, 3, 4, 1, 3], [0, 1, 4, 4, 1, 2, 3, 4, 2, 2, 3], [0, 1, 4, 4, 1, 2, 3, 4, 3, 1, 2, 3]])

    def test_gones_stay_when_the_version_is_retired_no_more(self):
        calls = FOUR + [tick(1), work(), flow(), controller(), knows(0), knows(1)]
        self.assertEqual(ask(calls)[-3:], [[0, 4, 0, 4, 2, 2, 13, 3, 16], [0, 1, 4, 4, 1, 2, 3, 4, 1, 1],
                                           [0, 2, 4, 4, 1, 2, 3, 4, 1, 1]])

    def test_the_start_that_it_knows(self):
        calls = IN_FORCE + [restart(1), knows(1), switch(1), deliver(0), knows(1), knows(0)]
        self.assertEqual(ask(calls)[-5:], [[0, 2, 1, 1, 1, 0], [0, 3, 0, 0, 0], [0], [0, 3, 0, 0, 0],
                                           [0, 1, 1, 1, 1, 0]])


class Controller(unittest.TestCase):
    def test_nothing_published(self):
        self.assertEqual(last([begin(), controller()]), [0, 0, 0, 0, 0])

    def test_one_pending_and_none_in_force(self):
        calls = [begin(), publish(RULE), controller(), work(), flow(3), controller(), flow(1), controller()]
        self.assertEqual([ask(calls)[k] for k in (2, 5, 7)], [[0, 0, 1, 0, 0], [0, 0, 1, 0, 0], [0, 0, 1, 1, 0]])

    def test_none_pending(self):
        self.assertEqual(last(IN_FORCE + [controller()]), [0, 1, 0, 1, 0])

    def test_the_target_the_one_in_force_then_the_pending_one(self):
        calls = IN_FORCE + [publish(RULE), controller(), work(), flow(), controller(), work(), flow(), controller()]
        told_by_it = ask(calls)
        self.assertEqual([told_by_it[k] for k in (-7, -4, -1)],
                         [[0, 1, 1, 1, 0], [0, 1, 1, 2, 0], [0, 2, 0, 2, 1, 1, 10]])

    def test_the_target_falls_back(self):
        calls = IN_FORCE + [publish(RULE), work(), flow()]
        self.assertEqual(ask(calls + [restart(1), controller(), flow(), controller()])[-3::2],
                         [[0, 1, 1, 2, 0], [0, 1, 1, 1, 0]])
        self.assertEqual(last(calls + [crash(), controller()]), [0, 1, 1, 1, 0])

    def test_several_retired_ones(self):
        self.assertEqual(last(FOUR + [controller()]), [0, 4, 0, 4, 3, 1, 10, 2, 13, 3, 16])

    def test_their_order_when_one_in_their_midst_has_gone(self):
        # Of each switch's three drops only the second is handed over.
        calls = FOUR + [tick(7), work(), lose(0), lose(1), lose(1), lose(2), flow(), controller()]
        self.assertEqual(last(calls), [0, 4, 0, 4, 2, 1, 10, 3, 16])

    def test_a_retired_one_and_a_pending_one(self):
        self.assertEqual(last(FOUR + [publish(), controller()]), [0, 4, 1, 4, 3, 1, 10, 2, 13, 3, 16])


class Bag(unittest.TestCase):
    def test_an_empty_one(self):
        self.assertEqual(last([begin(), bag()]), [0, 0])

    def test_each_kind_by_itself(self):
        row = [begin(1), publish([0, 3, 4, 0]), work()]
        self.assertEqual(last(row + [bag()]), [0, 1, 0, 0, 1, 1, 0, 1, 0, 3, 4, 0])
        have = row + [deliver(0)]
        self.assertEqual(last(have + [bag()]), [0, 1, 4, 0, 1, 1])
        flip = have + [deliver(0), work()]
        self.assertEqual(last(flip + [bag()]), [0, 1, 1, 0, 1, 1])
        turned = flip + [deliver(0)]
        self.assertEqual(last(turned + [bag()]), [0, 1, 5, 0, 1, 1])
        bare = turned + [deliver(0), publish(), work()]
        self.assertEqual(last(bare + [bag()]), [0, 1, 0, 0, 1, 2, 0, 0])
        drop = bare + [flow(), work(), flow(), tick(10), work()]
        self.assertEqual(last(drop + [bag()]), [0, 1, 2, 0, 1, 1])
        gone = drop + [deliver(0)]
        self.assertEqual(last(gone + [bag()]), [0, 1, 6, 0, 1, 1])
        greeting = gone + [deliver(0), restart(0)]
        self.assertEqual(last(greeting + [bag()]), [0, 1, 3, 0, 2])

    def test_all_of_them_together(self):
        # 2 without rules is in force, 1 retired and due; switch 1 has started anew, and its row of 2 is doubled.
        calls = IN_FORCE + [publish()] + turn() + [tick(10), restart(1), flow(), work(), double(1)]
        self.assertEqual(messages_after(calls), [[2, 0, 1, 1], [0, 1, 3, 2, 0, 0], [2, 1, 3, 1], [0, 1, 3, 2, 0, 0]])
        # The drop to 0 brings gone; the row to 1 brings have, which is handed over.
        calls += [deliver(0), deliver(0), deliver(3)]
        self.assertEqual(messages_after(calls), [[2, 1, 3, 1], [0, 1, 3, 2, 0, 0], [6, 0, 1, 1]])
        # 3 is published: rows with a rule, a flip to 2 for switch 1 and the drops again.
        calls += [publish([1, 0, 65535, 1]), lose(2), hello(0), work()]
        # The flip is doubled and one of them handed over; so is the row of 3 to switch 1.
        calls += [double(6), deliver(6), deliver(5)]
        self.assertEqual(last(calls + [bag()]), [
            0, 9,
            2, 1, 3, 1,
            0, 1, 3, 2, 0, 0,
            3, 0, 1,
            0, 0, 1, 3, 0, 1, 1, 0, 65535, 1,
            2, 0, 1, 1,
            2, 1, 3, 1,
            1, 1, 3, 2,
            5, 1, 3, 2,
            4, 1, 3, 3])

    def test_places_and_totals_of_rows(self):
        calls = [begin(1), publish([-1, 0, 0, 0], [0, 1, 65535, 1], [-1, 2, 2, 1]), work(), lose(1), bag()]
        self.assertEqual(last(calls), [0, 2, 0, 0, 1, 1, 0, 3, -1, 0, 0, 0, 0, 0, 1, 1, 2, 3, -1, 2, 2, 1])

    def test_the_greatest_one(self):
        calls = [begin(16, 4096), publish(*[RULE] * 16)] + [work()] * 17 + [bag(), counts()]
        told_by_it = ask(calls)
        self.assertEqual(told_by_it[-2][:2], [0, 4096])
        self.assertEqual(len(told_by_it[-2]), 2 + 4096 * 10)
        self.assertEqual(told_by_it[-1], [0, 0, 256, 0, 0, 0, 0, 0, 0])

    def test_fifteen_times_in_a_line(self):
        calls = [begin(1), hello(0)] + [bag()] * 15
        self.assertEqual(ask(calls)[2:], [[0, 1, 3, 0, 1]] * 15)


class Packets(unittest.TestCase):
    def test_none(self):
        self.assertEqual(ask([begin(), packets()] + IN_FORCE + [packets()])[1::7], [[0, 0], [0, 0]])

    def test_in_order_after_one_in_their_midst_has_gone(self):
        calls = IN_FORCE + [enter(5, 0, 1), tick(1), enter(6, 1, 0), tick(1), enter(7, 0, 1, 1), packets()]
        self.assertEqual(last(calls), [0, 3, 5, 1, 1, 0, 2, 0, 1, 6, 1, 1, 1, 2, 1, 0, 7, 1, 1, 2, 3, 0, 1, 1])
        calls += [hop(1), packets(), hop(1), packets(), hop(0), packets()]
        self.assertEqual(ask(calls)[-6:], [
            [5], [0, 2, 5, 1, 1, 0, 2, 0, 1, 7, 1, 1, 2, 3, 0, 1, 1],
            [0], [0, 2, 5, 1, 1, 0, 2, 0, 1, 7, 2, 1, 2, 3, 0, 1, 1],
            [5], [0, 1, 7, 2, 1, 2, 3, 0, 1, 1]])

    def test_two_alike(self):
        calls = IN_FORCE + [enter(7, 0, 1, 0), enter(7, 0, 1, 0), hop(1), packets()]
        self.assertEqual(last(calls), [0, 2, 7, 1, 1, 0, 3, 0, 1, 0, 7, 2, 1, 0, 3, 0, 1, 0])

    def test_sixty_times_in_a_line(self):
        calls = IN_FORCE + [enter(9, 1, 0)] + [packets()] * 60
        self.assertEqual(ask(calls)[7:], [[0, 1, 9, 1, 1, 0, 2, 1, 0]] * 60)


class Counts(unittest.TestCase):
    def test_at_the_beginning(self):
        self.assertEqual(last([begin(), counts()]), [0] * 9)

    def test_each_of_the_eight_not_0(self):
        calls = [begin(2, 4, 10, 99), publish([1, 8, 8, 0], [-1, 5, 9, 1])]
        calls += [enter(7, 0)] * 2
        # Four messages fit: three more are lost.
        calls += [hello(0)] * 7 + [flow()] + turn()
        self.assertEqual(last(calls + [counts()]), [0, 0, 3, 2, 0, 0, 0, 0, 2])
        calls += [enter(7, 0)] * 5 + [enter(4, 0)] * 3 + [enter(8, 0, 1), hop()]
        self.assertEqual(last(calls + [counts()]), [0, 0, 3, 11, 5, 4, 0, 0, 2])
        calls += [enter(7, 0, 1)] * 8 + [hop(), tick(9)] + [restart(1)] + [hop()] * 6
        self.assertEqual(last(calls + [counts()]), [0, 9, 3, 19, 6, 4, 6, 0, 2])
        calls += [tick(1), hop()]
        self.assertEqual(last(calls + [counts()]), [0, 10, 3, 19, 6, 4, 6, 1, 2])
        self.assertEqual(last(calls + [begin(0), counts()]), [0, 10, 3, 19, 6, 4, 6, 1, 2])
        self.assertEqual(last(calls + [begin(), counts()]), [0] * 9)

    def test_the_greatest_time(self):
        self.assertEqual(last([begin(), tick(2 ** 62), counts()]), [0, 2 ** 62, 0, 0, 0, 0, 0, 0, 0])

    def test_lost_by_work_by_answers_and_by_hello(self):
        calls = [begin(2, 1), publish(RULE), work(), counts(), hello(0), counts(), restart(1), counts(), lose(0),
                 counts()]
        self.assertEqual([answer[2] for answer in ask(calls)[3::2]], [1, 2, 3, 3])


class NothingChanges(unittest.TestCase):
    def test_whatever_is_asked(self):
        for before in (IN_FORCE, ANEW, FOUR):
            for call in (switch(0), switch(1), knows(0), knows(1), controller(), bag(), packets(), counts()):
                self.assertEqual(told(before + [call]), told(before))

    def test_asked_twice_the_same(self):
        for call in (switch(0), knows(0), controller(), bag(), packets(), counts()):
            first, second = ask(FOUR + [enter(7, 0, 1), hello(1), call, call])[-2:]
            self.assertEqual(first, second)


if __name__ == "__main__":
    unittest.main()
