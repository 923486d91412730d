"""Call 13, policy, and what a list of rules says of a key at a switch."""

import unittest

from tests.helper import (GREATEST, LEAST, RULE, ask, begin, crash, flow, last, policy, publish, restart, tick, told,
                          turn, work)

ALL = [-1, 0, 65535, 1]
PUBLISHED = [begin(3), publish([1, 6, 8, 0], [-1, 5, 9, 1], [-1, 8, 20, 0], [2, 8, 30, 1])]


def passes(before, v, x, keys):
    return [answer[0] for answer in ask(before + [policy(v, x, key) for key in keys])[len(before):]]


class Says(unittest.TestCase):
    def test_the_first_that_fits_decides(self):
        keys = [4, 5, 6, 8, 9, 10, 20, 21, 30, 31]
        self.assertEqual(passes(PUBLISHED, 1, 0, keys), [0, 1, 1, 1, 1, 0, 0, 0, 0, 0])
        self.assertEqual(passes(PUBLISHED, 1, 1, keys), [0, 1, 0, 0, 1, 0, 0, 0, 0, 0])
        self.assertEqual(passes(PUBLISHED, 1, 2, keys), [0, 1, 1, 1, 1, 0, 0, 1, 1, 0])

    def test_pass_before_not_and_not_before_pass(self):
        self.assertEqual(last([begin(1), publish([0, 7, 7, 1], [0, 7, 7, 0]), policy(1, 0, 7)]), [1])
        self.assertEqual(last([begin(1), publish([0, 7, 7, 0], [0, 7, 7, 1]), policy(1, 0, 7)]), [0])

    def test_where_none_fits_it_does_not_pass(self):
        self.assertEqual(passes([begin(), publish(RULE)], 1, 0, [0, 4, 10, 65535]), [0, 0, 0, 0])
        self.assertEqual(passes([begin(), publish([1] + ALL[1:])], 1, 0, [0, 7, 65535]), [0, 0, 0])

    def test_a_rule_for_all_switches(self):
        calls = [begin(16), publish(RULE)]
        for x in range(16):
            self.assertEqual(passes(calls, 1, x, [4, 5, 9, 10]), [0, 1, 1, 0])

    def test_a_rule_for_one_switch_alone(self):
        calls = [begin(16), publish([9, 5, 9, 1])]
        self.assertEqual([passes(calls, 1, x, [7])[0] for x in range(16)], [0] * 9 + [1] + [0] * 6)
        calls = [begin(2), publish([0, 5, 9, 1])]
        self.assertEqual([passes(calls, 1, x, [7])[0] for x in range(2)], [1, 0])

    def test_one_key(self):
        self.assertEqual(passes([begin(), publish([-1, 7, 7, 1])], 1, 0, [6, 7, 8]), [0, 1, 0])

    def test_a_version_without_rules(self):
        self.assertEqual(passes([begin(), publish()], 1, 1, [0, 7, 65535]), [0, 0, 0])

    def test_the_last_of_sixteen_rules(self):
        calls = [begin(), publish(*[[-1, 0, 6, 0]] * 15, ALL)]
        self.assertEqual(passes(calls, 1, 0, [6, 7]), [0, 1])


class Versions(unittest.TestCase):
    CALLS = [begin(2), publish(RULE)] + turn() + [publish([-1, 4, 4, 1])] + turn() + [publish()]

    def test_each_by_its_own_rules(self):
        for before in (self.CALLS, self.CALLS + [crash(), restart(0)], self.CALLS + [tick(10), work(), flow()]):
            self.assertEqual([passes(before, v, 0, [4, 7]) for v in (1, 2, 3)], [[0, 1], [1, 0], [0, 0]])

    def test_a_pending_one_from_the_beginning(self):
        self.assertEqual(ask([begin(), policy(1, 0, 7), publish(RULE), policy(1, 0, 7)])[1:], [[-1], [1], [1]])

    def test_a_refused_publish_leaves_them(self):
        self.assertEqual(ask(self.CALLS + [publish(ALL), policy(3, 0, 7), policy(4, 0, 7)])[-3:], [[-2], [0], [-1]])


class Refusals(unittest.TestCase):
    CALLS = [begin(3), publish(ALL)] + turn() + [publish(ALL)]

    def test_the_versions_number(self):
        for v, answer in [(-1, -1), (0, -1), (1, 1), (2, 1), (3, -1), (LEAST, -1), (GREATEST, -1)]:
            self.assertEqual(last(self.CALLS + [policy(v, 0, 7)]), [answer])
        self.assertEqual(ask([begin(), policy(0, 0, 7), policy(1, 0, 7)])[1:], [[-1], [-1]])

    def test_the_switch(self):
        for x, answer in [(-1, -1), (0, 1), (2, 1), (3, -1), (LEAST, -1), (GREATEST, -1)]:
            self.assertEqual(last(self.CALLS + [policy(1, x, 7)]), [answer])

    def test_the_key(self):
        for key, answer in [(-1, -1), (0, 1), (65535, 1), (65536, -1), (LEAST, -1), (GREATEST, -1)]:
            self.assertEqual(last(self.CALLS + [policy(1, 0, key)]), [answer])

    def test_it_changes_nothing(self):
        for call in (policy(1, 0, 7), policy(0, 0, 7), policy(1, 3, 7), policy(1, 0, 65536), policy(9, 9, -9)):
            self.assertEqual(told(self.CALLS + [call]), told(self.CALLS))


if __name__ == "__main__":
    unittest.main()
