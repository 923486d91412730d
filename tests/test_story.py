"""One long line: after each of its steps the calls 14 to 19 tell what has changed, and that the rest hasn't."""

import unittest

from tests.helper import (RULE, ask, begin, crash, deliver, double, enter, flow, hello, hop, lose, publish, restart,
                          tick, tells, told, work)

SECOND = [1, 7, 7, 0]
# The rows of version 1 to switch 0, to switch 1 with its first start, and with the one after that.
ROW_00, ROW_01 = [0, 0, 1, 1, 0, 2] + RULE, [0, 0, 1, 1, 1, 2] + SECOND
ROW_10, ROW_11 = [0, 1, 2, 1, 0, 2] + RULE, [0, 1, 2, 1, 1, 2] + SECOND
NEW_10, NEW_11 = [0, 1, 3, 1, 0, 2] + RULE, [0, 1, 3, 1, 1, 2] + SECOND
HAVE_0, TURNED_0, TURNED_1 = [4, 0, 1, 1], [5, 0, 1, 1], [5, 1, 3, 1]
FLIP_1, HELLO_1, DROP_0, GONE_0, GONE_1 = [1, 1, 3, 1], [3, 1, 3], [2, 0, 1, 1], [6, 0, 1, 1], [6, 1, 3, 1]


def holds(*messages):
    return [0, len(messages)] + [number for message in messages for number in message]


FIRST = {
    "switch 0": [0, 1, 0, 0, 0], "switch 1": [0, 2, 0, 0, 0], "knows 0": [0, 1, 0, 0, 0], "knows 1": [0, 2, 0, 0, 0],
    "controller": [0, 0, 0, 0, 0], "bag": [0, 0], "packets": [0, 0], "counts": [0] * 9,
}
# A call, its answer, and what is told anew after it.
STEPS = [
    (begin(2, 4, 10, 2), [0], FIRST),
    (publish(RULE, SECOND), [1], {"controller": [0, 0, 1, 0, 0]}),
    (work(), [0], {"bag": holds(ROW_00, ROW_01, ROW_10, ROW_11)}),
    (hello(0), [0], {"counts": [0, 0, 1, 0, 0, 0, 0, 0, 0]}),
    (double(0), [-2], {}),
    (lose(3), [0], {"bag": holds(ROW_00, ROW_01, ROW_10)}),
    (double(1), [0], {"bag": holds(ROW_00, ROW_01, ROW_10, ROW_01)}),
    (tick(3), [0], {"counts": [0, 3, 1, 0, 0, 0, 0, 0, 0]}),
    (deliver(1), [0], {"bag": holds(ROW_00, ROW_10, ROW_01), "switch 0": [0, 1, 0, 0, 1, 1, 2, 1]}),
    (deliver(2), [0], {"bag": holds(ROW_00, ROW_10)}),
    (deliver(0), [0], {"bag": holds(ROW_10, HAVE_0), "switch 0": [0, 1, 0, 0, 1, 1, 2, 2]}),
    (double(1), [0], {"bag": holds(ROW_10, HAVE_0, HAVE_0)}),
    (flow(2), [0, 2], {"bag": holds(HAVE_0), "switch 1": [0, 2, 0, 0, 1, 1, 2, 1], "knows 0": [0, 1, 0, 1, 1, 0]}),
    (deliver(0), [0], {"bag": holds()}),
    (enter(7, 0), [4], {"counts": [0, 3, 1, 1, 0, 0, 0, 0, 1]}),
    (work(), [0], {"bag": holds(ROW_10, ROW_11)}),
    (restart(1), [3], {"bag": holds(ROW_10, ROW_11, HELLO_1), "switch 1": [0, 3, 0, 0, 0]}),
    # A row for the start before does nothing.
    (deliver(1), [0], {"bag": holds(ROW_10, HELLO_1)}),
    (deliver(1), [0], {"bag": holds(ROW_10), "knows 1": [0, 3, 0, 0, 0]}),
    (flow(5000), [0, 1], {"bag": holds()}),
    (work(), [0], {"bag": holds(NEW_10, NEW_11)}),
    (flow(5000), [0, 3], {"bag": holds(), "switch 1": [0, 3, 0, 0, 1, 1, 2, 2], "knows 1": [0, 3, 0, 1, 1, 0],
                          "controller": [0, 0, 1, 1, 0]}),
    (work(), [0], {"bag": holds([1, 0, 1, 1], FLIP_1)}),
    (deliver(0), [0], {"bag": holds(FLIP_1, TURNED_0), "switch 0": [0, 1, 1, 0, 1, 1, 2, 2]}),
    (enter(6, 0, 1), [0], {"packets": [0, 1, 6, 1, 1, 3, 2, 0, 1], "counts": [0, 3, 1, 2, 0, 0, 0, 0, 1]}),
    (deliver(1), [0], {"bag": holds(FLIP_1), "knows 0": [0, 1, 1, 1, 1, 0]}),
    (flow(1), [0, 1], {"bag": holds(TURNED_1), "switch 1": [0, 3, 1, 0, 1, 1, 2, 2]}),
    (flow(1), [0, 1], {"bag": holds(), "knows 1": [0, 3, 1, 1, 1, 0], "controller": [0, 1, 0, 1, 0]}),
    (publish(), [2], {"controller": [0, 1, 1, 1, 0]}),
    (work(), [0], {"bag": holds([0, 0, 1, 2, 0, 0], [0, 1, 3, 2, 0, 0])}),
    (flow(5000), [0, 4], {"bag": holds(), "switch 0": [0, 1, 1, 0, 2, 1, 2, 2, 2, 0, 0],
                          "switch 1": [0, 3, 1, 0, 2, 1, 2, 2, 2, 0, 0], "knows 0": [0, 1, 1, 2, 1, 2, 0],
                          "knows 1": [0, 3, 1, 2, 1, 2, 0], "controller": [0, 1, 1, 2, 0]}),
    (crash(), [0], {"knows 0": [0, 1, 0, 0, 0], "knows 1": [0, 3, 0, 0, 0], "controller": [0, 1, 1, 1, 0]}),
    # Six messages for a bag of four.
    (work(), [0], {"bag": holds(ROW_00, ROW_01, [0, 0, 1, 2, 0, 0], NEW_10), "counts": [0, 3, 3, 2, 0, 0, 0, 0, 1]}),
    (flow(5000), [0, 8], {"bag": holds(), "knows 0": [0, 1, 0, 2, 1, 2, 0], "knows 1": [0, 3, 0, 1, 1, 0]}),
    (work(), [0], {"bag": holds([1, 0, 1, 1], [0, 1, 3, 2, 0, 0], FLIP_1)}),
    # The flips to 1 only bring it about that the switches say it again.
    (flow(5000), [0, 6], {"bag": holds(), "knows 0": [0, 1, 1, 2, 1, 2, 0], "knows 1": [0, 3, 1, 2, 1, 2, 0],
                          "controller": [0, 1, 1, 2, 0]}),
    (work(), [0], {"bag": holds([1, 0, 1, 2], [1, 1, 3, 2])}),
    (flow(5000), [0, 4], {"bag": holds(), "switch 0": [0, 1, 2, 0, 2, 1, 2, 2, 2, 0, 0],
                          "switch 1": [0, 3, 2, 0, 2, 1, 2, 2, 2, 0, 0], "knows 0": [0, 1, 2, 2, 1, 2, 0],
                          "knows 1": [0, 3, 2, 2, 1, 2, 0], "controller": [0, 2, 0, 2, 1, 1, 13]}),
    (hop(0), [5], {"packets": [0, 0], "counts": [0, 3, 3, 2, 1, 0, 0, 0, 1]}),
    (tick(9), [0], {"counts": [0, 12, 3, 2, 1, 0, 0, 0, 1]}),
    (work(), [0], {}),
    (tick(1), [0], {"counts": [0, 13, 3, 2, 1, 0, 0, 0, 1]}),
    (work(), [0], {"bag": holds(DROP_0, [2, 1, 3, 1])}),
    (deliver(1), [0], {"bag": holds(DROP_0, GONE_1), "switch 1": [0, 3, 2, 1, 1, 2, 0, 0]}),
    (deliver(1), [0], {"bag": holds(DROP_0), "knows 1": [0, 3, 2, 2, 1, 2, 1, 1]}),
    (double(0), [0], {"bag": holds(DROP_0, DROP_0)}),
    (flow(1), [0, 1], {"bag": holds(DROP_0, GONE_0), "switch 0": [0, 1, 2, 1, 1, 2, 0, 0]}),
    (deliver(1), [0], {"bag": holds(DROP_0), "knows 0": [0, 1, 2, 2, 1, 2, 1, 1], "controller": [0, 2, 0, 2, 0]}),
    (flow(5000), [0, 2], {"bag": holds()}),
    (deliver(0), [-1], {}),
    (begin(17), [-1], {}),
    (begin(2, 9, 9, 9), [0], FIRST),
]
CALLS = [call for call, answer, changed in STEPS]


class Story(unittest.TestCase):
    def test_what_each_call_answers(self):
        self.assertEqual(ask(CALLS), [answer for call, answer, changed in STEPS])

    def test_what_is_told_after_each_step(self):
        there_is = {}
        for at, (call, answer, changed) in enumerate(STEPS):
            there_is.update(changed)
            with self.subTest(at=at, call=call):
                self.assertEqual(told(CALLS[:at + 1]), there_is)

    def test_each_change_is_one(self):
        # So that the table above names nothing that stays.
        there_is = {}
        for call, answer, changed in STEPS[:-1]:
            for name, numbers in changed.items():
                self.assertNotEqual(there_is.get(name), numbers, (call, name))
            there_is.update(changed)

    def test_told_in_the_midst_of_the_line(self):
        # Fifteen steps at a time, since a line has at most fifteen bags.
        named = tells(2)
        for first in range(0, len(STEPS), 15):
            calls = CALLS[:first]
            there_is = {}
            for call, answer, changed in STEPS[:first]:
                there_is.update(changed)
            expected = []
            for call, answer, changed in STEPS[first:first + 15]:
                there_is.update(changed)
                calls = calls + [call] + list(named.values())
                expected += [answer] + [there_is[name] for name in named]
            self.assertEqual(ask(calls)[first:], expected)


if __name__ == "__main__":
    unittest.main()
