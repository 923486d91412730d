"""DOC.md's section "Example", word for word."""

import unittest

from policyturn.rollout import answers
from tests.helper import ask, bag, begin, controller, enter, flow, hop, publish, work


class Example(unittest.TestCase):
    def test_step_by_step(self):
        steps = [
            (begin(2, 99, 10, 9), [0]),
            (publish([-1, 5, 9, 1]), [1]),
            (work(), [0]),
            (bag(), [0, 2, 0, 0, 1, 1, 0, 1, -1, 5, 9, 1, 0, 1, 2, 1, 0, 1, -1, 5, 9, 1]),
            (flow(9), [0, 4]),
            (controller(), [0, 0, 1, 1, 0]),
            (work(), [0]),
            (flow(9), [0, 4]),
            (controller(), [0, 1, 0, 1, 0]),
            (enter(7, 0, 1), [0]),
            (hop(0), [5]),
            (enter(4, 0), [1]),
        ]
        self.assertEqual(ask([call for call, answer in steps]), [answer for call, answer in steps])

    def test_what_each_flow_delivers(self):
        before = [begin(2, 99, 10, 9), publish([-1, 5, 9, 1]), work(), flow(2), bag(), flow(9), work(), bag(), flow(2),
                  bag()]
        told = ask(before)
        self.assertEqual(told[4], [0, 2, 4, 0, 1, 1, 4, 1, 2, 1])
        self.assertEqual(told[7], [0, 2, 1, 0, 1, 1, 1, 1, 2, 1])
        self.assertEqual(told[9], [0, 2, 5, 0, 1, 1, 5, 1, 2, 1])

    def test_number_by_number(self):
        handed = [
            0, 2, 99, 10, 9, 1, 4, -1, 5, 9, 1, 2, 7, 9, 16, 2, 7, 9, 16, 11, 7, 2, 0, 1, 12, 0, 11, 4, 1, 0,
        ]
        self.assertEqual(answers(handed), [
            1, 0, 1, 1, 1, 0, 2, 0, 4, 5, 0, 0, 1, 1, 0, 1, 0, 2, 0, 4, 5, 0, 1, 0, 1, 0, 1, 0, 1, 5, 1, 1,
        ])


if __name__ == "__main__":
    unittest.main()
