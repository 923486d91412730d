"""Call 10, crash: what the controller forgets, what stays, and what work sends afterwards."""

import unittest

from tests.helper import (RULE, ask, begin, controller, crash, deliver, enter, flow, knows, last, lose, messages_after,
                          policy, publish, restart, tick, told, turn, work)

WIDE = [-1, 0, 9, 1]
ROW_0 = [0, 0, 1, 1, 0, 1] + RULE
ROW_1 = [0, 1, 2, 1, 0, 1] + RULE
HAD = [begin(2, 99, 10, 9), publish(RULE), work(), flow()]
IN_FORCE = HAD + [work(), flow()]
# Version 1 is retired, 2 in force, 3 pending and on both switches; switch 0 said that 1 is gone.
BUSY = IN_FORCE + [publish(WIDE)] + turn() + [tick(10), work(), lose(1), flow(), publish(), work(), lose(2), flow(),
                                              enter(7, 0, 1)]


class Forgotten(unittest.TestCase):
    def test_it_answers_0(self):
        self.assertEqual(ask([begin(), crash(), crash()]), [[0], [0], [0]])

    def test_where_nothing_was_said_nothing_changes(self):
        for before in ([begin()], [begin(), publish(RULE)], [begin(), publish(RULE), work()]):
            self.assertEqual(told(before + [crash()]), told(before))

    def test_what_it_had_is_forgotten(self):
        self.assertEqual(ask(HAD + [knows(0), knows(1)])[-2:], [[0, 1, 0, 1, 1, 0], [0, 2, 0, 1, 1, 0]])
        self.assertEqual(ask(HAD + [crash(), knows(0), knows(1)])[-2:], [[0, 1, 0, 0, 0], [0, 2, 0, 0, 0]])

    def test_what_it_was_turned_to_is_forgotten(self):
        self.assertEqual(last(IN_FORCE + [knows(1)]), [0, 2, 1, 1, 1, 0])
        self.assertEqual(last(IN_FORCE + [crash(), knows(1)]), [0, 2, 0, 0, 0])

    def test_what_is_gone_is_forgotten(self):
        self.assertEqual(last(BUSY + [knows(0)]), [0, 1, 2, 3, 1, 2, 3, 1, 1])
        self.assertEqual(last(BUSY + [crash(), knows(0)]), [0, 1, 0, 0, 0])

    def test_of_every_switch(self):
        calls = [begin(16), publish(RULE)] + turn() + [crash()] + [knows(x) for x in range(16)]
        self.assertEqual(ask(calls)[-16:], [[0, x + 1, 0, 0, 0] for x in range(16)])

    def test_the_target_falls_back(self):
        self.assertEqual(last(HAD + [controller()]), [0, 0, 1, 1, 0])
        self.assertEqual(last(HAD + [crash(), controller()]), [0, 0, 1, 0, 0])
        calls = IN_FORCE + [publish(), work(), flow()]
        self.assertEqual(last(calls + [controller()]), [0, 1, 1, 2, 0])
        self.assertEqual(last(calls + [crash(), controller()]), [0, 1, 1, 1, 0])


class Kept(unittest.TestCase):
    def test_all_but_the_memory(self):
        before = told(BUSY)
        after = told(BUSY + [crash()])
        # The controller's disk stays; its target, which hangs on the memory, falls back.
        self.assertEqual({name for name in before if before[name] != after[name]}, {"knows 0", "knows 1", "controller"})
        self.assertEqual(before["controller"], [0, 2, 1, 3, 1, 1, 10])
        self.assertEqual(after["controller"], [0, 2, 1, 2, 1, 1, 10])
        self.assertEqual(after["packets"], [0, 1, 7, 1, 2, 10, 2, 0, 1])

    def test_the_published_versions(self):
        calls = BUSY + [crash(), policy(1, 0, 7), policy(2, 0, 7), policy(3, 0, 7), policy(4, 0, 7), publish()]
        self.assertEqual(ask(calls)[-5:], [[1], [1], [0], [-1], [-2]])

    def test_the_starts(self):
        calls = IN_FORCE + [restart(1), flow(), work(), flow()]
        self.assertEqual(ask(calls + [knows(1), crash(), knows(1)])[-3:], [[0, 3, 0, 1, 1, 0], [0], [0, 3, 0, 0, 0]])

    def test_what_is_under_way(self):
        calls = [begin(), publish(RULE), work(), deliver(0)]
        self.assertEqual(messages_after(calls + [crash()]), [ROW_1, [4, 0, 1, 1]])
        # Words that come after it are believed.
        self.assertEqual(last(calls + [crash(), deliver(1), knows(0)]), [0, 1, 0, 1, 1, 0])


class Afterwards(unittest.TestCase):
    def test_the_rows_of_the_pending_one_again(self):
        self.assertEqual(messages_after(HAD + [work()]), [[1, 0, 1, 1], [1, 1, 2, 1]])
        self.assertEqual(messages_after(HAD + [crash(), work()]), [ROW_0, ROW_1])

    def test_the_switches_say_again_that_they_have_it(self):
        calls = HAD + [crash()] + turn() + [controller()]
        self.assertEqual(ask(calls)[4:], [[0], [0], [0, 4], [0], [0, 4], [0, 1, 0, 1, 0]])

    def test_the_rows_of_the_one_in_force_then_its_flips(self):
        self.assertEqual(messages_after(IN_FORCE + [work()]), [])
        self.assertEqual(messages_after(IN_FORCE + [crash(), work()]), [ROW_0, ROW_1])
        flips = IN_FORCE + [crash(), work(), flow(), work()]
        self.assertEqual(messages_after(flips), [[1, 0, 1, 1], [1, 1, 2, 1]])
        self.assertEqual(told(flips + [flow()]), told(IN_FORCE))

    def test_rows_of_both_and_the_drop(self):
        self.assertEqual(messages_after(BUSY + [crash(), work()]), [
            [0, 0, 1, 2, 0, 1] + WIDE, [0, 0, 1, 3, 0, 0], [2, 0, 1, 1],
            [0, 1, 2, 2, 0, 1] + WIDE, [0, 1, 2, 3, 0, 0], [2, 1, 2, 1]])

    def test_a_retired_one_goes_when_all_have_said_it_again(self):
        calls = BUSY + [crash(), work(), lose(2), flow(), controller(), work(), flow(), controller()]
        self.assertEqual(ask(calls)[-4:][0], [0, 2, 1, 3, 1, 1, 10])
        # Switch 1 alone said that 1 is gone; what switch 0 said before the crash counts no more.
        self.assertEqual(last(calls), [0, 3, 0, 3, 1, 2, 20])

    def test_one_turned_before_and_one_after_are_not_both(self):
        calls = HAD + [work(), flow(2)]
        self.assertEqual(messages_after(calls), [[5, 0, 1, 1], [5, 1, 2, 1]])
        self.assertEqual(last(calls + [deliver(0), deliver(0), controller()]), [0, 1, 0, 1, 0])
        self.assertEqual(last(calls + [deliver(0), crash(), deliver(0), controller()]), [0, 0, 1, 0, 0])
        # The rows, the haves, the flips once more: then both have said it.
        self.assertEqual(last(calls + [deliver(0), crash(), deliver(0)] + turn() + [controller()]), [0, 1, 0, 1, 0])


if __name__ == "__main__":
    unittest.main()
