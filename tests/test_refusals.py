"""Every refusal of every call: its number alone, in the order told, and nothing changes, as the calls 14 to 19 tell."""

import unittest

from policyturn.rollout import answers
from tests.helper import (GREATEST, LEAST, RULE, TIME_END, ask, begin, crash, deliver, double, enter, flow, hello, hop,
                          knows, line, lose, policy, publish, publish_numbers, restart, switch, tick, told, turn, work)

ALL = [-1, 0, 65535, 1]
# Something of everything: 1 is retired, 2 in force, 3 pending, a start of which the controller doesn't know, a full
# bag, lost messages, a full room, and packets that were delivered and dropped.
FULL = [begin(2, 3, 10, 2), enter(7, 0), publish(RULE)] + turn() + [enter(7, 0, 1), publish(ALL)] + turn() + [
    tick(4), enter(9, 0), enter(9, 1, 0), hello(0), publish(RULE), restart(1), work(), hello(0), hello(0)]
# The same with a packet and two messages less.
LESS = FULL + [hop(1), lose(0), lose(0)]

# By a call's number: a wrong call and the refusal that it gets, whatever there is.
WRONG = [
    (begin(0), -1), (begin(17), -1), (begin(2, 0), -1), (begin(2, 4097), -1), (begin(2, 9, 0), -1),
    (begin(2, 9, 1000001), -1), (begin(2, 9, 9, 0), -1), (begin(2, 9, 9, 257), -1),
    (publish_numbers([0, 1, 2]), -1), (publish_numbers(RULE * 17), -1), (publish([2, 0, 0, 0]), -1),
    (publish([-2, 0, 0, 0]), -1), (publish([0, 9, 8, 0]), -1), (publish([0, -1, 8, 0]), -1),
    (publish([0, 0, 65536, 0]), -1), (publish([0, 0, 0, 2]), -1), (publish(RULE, [0, 0, 0, -1]), -1),
    (tick(0), -1), (tick(-1), -1), (tick(TIME_END + 1), -1), (tick(TIME_END), -2), (tick(TIME_END - 3), -2),
    (deliver(-1), -1), (deliver(3), -1), (lose(-1), -1), (lose(3), -1), (double(-1), -1), (double(3), -1),
    (flow(-1), -1), (flow(5001), -1), (restart(-1), -1), (restart(2), -1), (hello(-1), -1), (hello(2), -1),
    (enter(-1, 0), -1), (enter(65536, 0), -1), (enter(7), -1), (enter(7, *[0] * 9), -1), (enter(7, *[0] * 128), -1),
    (enter(7, -1), -1), (enter(7, 2), -1), (enter(7, 0, 2), -1), (hop(-1), -1), (hop(2), -1),
    (policy(0, 0, 7), -1), (policy(4, 0, 7), -1), (policy(1, -1, 7), -1), (policy(1, 2, 7), -1), (policy(1, 0, -1), -1),
    (policy(1, 0, 65536), -1), (switch(-1), -1), (switch(2), -1), (knows(-1), -1), (knows(2), -1),
]
FAR = [(make(number), -1) for number in (LEAST, GREATEST)
       for make in (begin, tick, deliver, lose, double, flow, restart, hello, hop, switch, knows)]
# Only where there's too much of something.
TOO_MUCH = [(publish(), -2), (publish(RULE), -2), (double(0), -2), (double(2), -2), (enter(7, 0), -2),
            (enter(7, 0, 1), -2), (enter(4, 1), -2)]


class Refusals(unittest.TestCase):
    def test_what_there_is(self):
        self.assertEqual(told(FULL), {
            "switch 0": [0, 1, 2, 0, 2, 1, 1, 1, 2, 1, 1], "switch 1": [0, 3, 0, 0, 0],
            "knows 0": [0, 1, 2, 2, 1, 2, 0], "knows 1": [0, 2, 2, 2, 1, 2, 0],
            "controller": [0, 2, 1, 2, 1, 1, 10],
            "bag": [0, 3, 3, 0, 1, 3, 1, 3, 0, 0, 1, 3, 0, 1, -1, 5, 9, 1],
            "packets": [0, 2, 7, 1, 1, 0, 2, 0, 1, 9, 1, 2, 4, 2, 1, 0],
            "counts": [0, 4, 3, 4, 1, 0, 0, 0, 1]})

    def test_each_wrong_call(self):
        before = told(FULL)
        for call, refusal in WRONG + FAR + TOO_MUCH:
            with self.subTest(call=call):
                self.assertEqual(ask(FULL + [call])[-1], [refusal])
                self.assertEqual(told(FULL + [call]), before)

    def test_with_less_there_is_room(self):
        for call, refusal in TOO_MUCH[2:3] + TOO_MUCH[4:]:
            with self.subTest(call=call):
                self.assertGreaterEqual(ask(LESS + [call])[-1][0], 0)
                self.assertNotEqual(told(LESS + [call]), told(LESS))

    def test_all_of_them_behind_one_another(self):
        wrong = WRONG + FAR + TOO_MUCH
        calls = FULL + [call for call, refusal in wrong]
        self.assertEqual(ask(calls)[len(FULL):], [[refusal] for call, refusal in wrong])
        self.assertEqual(told(calls), told(FULL))

    def test_a_refusal_is_its_number_alone(self):
        before = answers(line(FULL))
        for call, refusal in WRONG + TOO_MUCH:
            self.assertEqual(answers(line(FULL + [call])), before + [1, refusal])

    def test_where_two_fit_the_first_told_is_answered(self):
        late = FULL + [tick(TIME_END - 4)]
        for calls in (
                FULL + [publish_numbers([1])], FULL + [publish([0, 2, 1, 0])], FULL + [double(3)], FULL + [double(-1)],
                FULL + [enter(65536, 0)], FULL + [enter(7)], FULL + [enter(7, 2)], late + [tick(0)],
                late + [tick(TIME_END + 1)]):
            self.assertEqual(ask(calls)[-1], [-1])
        self.assertEqual(ask(late + [tick(1)])[-1], [-2])


class NotBegun(unittest.TestCase):
    RIGHT = [publish(RULE), work(), tick(1), deliver(0), lose(0), double(0), flow(1), restart(0), hello(0), crash(),
             enter(7, 0, 1), hop(0), policy(1, 0, 7), switch(0), knows(0), [16], [17], [18], [19]]

    def test_right_and_wrong_calls(self):
        for call in self.RIGHT + [call for call, refusal in WRONG + FAR + TOO_MUCH if call[0] != 0]:
            with self.subTest(call=call):
                self.assertEqual(ask([call]), [[-20]])
                self.assertEqual(ask([begin(17), call]), [[-1], [-20]])

    def test_it_changes_nothing(self):
        for call in self.RIGHT:
            self.assertEqual(told([call, begin(3)]), told([begin(3)]))


if __name__ == "__main__":
    unittest.main()
