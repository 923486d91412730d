"""The interface: the list handed in, the list given back, and -20 till begin has answered 0."""

import unittest

from policyturn.rollout import answers
from tests.helper import (GREATEST, LEAST, RULE, ask, bag, begin, controller, counts, crash, deliver, double, enter,
                          flow, hello, hop, knows, last, line, lose, packets, policy, publish, publish_numbers,
                          restart, switch, tick, turn, work)

# One of each call that isn't begin, as DOC.md writes them.
OTHERS = [
    [1, 4, -1, 5, 9, 1], [2], [3, 1], [4, 0], [5, 0], [6, 0], [7, 1], [8, 0], [9, 0], [10], [11, 7, 2, 0, 1], [12, 0],
    [13, 1, 0, 7], [14, 0], [15, 0], [16], [17], [18], [19],
]
# Every call, and refused ones among them.
LONG = [enter(7, 0), begin(3, 20, 5, 1), publish(RULE, [2, 0, 65535, 0])] + turn() + [
    enter(7, 0, 1, 0), hop(0), packets(), enter(7, 0), hop(0), enter(4, 2), hop(0),
    publish(), tick(3), work(), bag(), double(1), lose(0), deliver(2), restart(1), flow(4), hello(0), work(), bag(),
    flow(), switch(0), switch(1), switch(3), knows(0), knows(1), knows(-1), controller(), crash(), knows(0), work(),
    policy(1, 0, 7), policy(1, 2, 4), policy(9, 0, 7), enter(9, 2, 2), packets(), counts(), publish(RULE), tick(0),
    lose(99), enter(7), enter(7, *[0] * 128), bag(), controller(),
]


class Form(unittest.TestCase):
    def test_the_example_number_by_number(self):
        calls = [0, 2, 99, 10, 9, 1, 4, -1, 5, 9, 1, 2, 7, 9, 2, 7, 9]
        self.assertEqual(answers(calls), [1, 0, 1, 1, 1, 0, 2, 0, 4, 1, 0, 2, 0, 4])

    def test_a_single_call(self):
        self.assertEqual(answers([0, 1, 1, 1, 1]), [1, 0])
        self.assertEqual(answers([2]), [1, -20])

    def test_a_refusal_is_its_number_alone(self):
        self.assertEqual(answers([0, 2, 9, 9, 9, 7, -1, 3, 0, 4, 0]), [1, 0, 1, -1, 1, -1, 1, -1])

    def test_each_call_number_by_number(self):
        # begin, publish, work, bag, tick, deliver 1, lose 0, double 0, flow 0, restart 1, hello 1, bag.
        self.assertEqual(answers([0, 2, 9, 9, 9, 1, 0, 2, 17, 3, 4, 4, 1, 5, 0, 6, 0, 7, 0, 8, 1, 9, 1, 17]), [
            1, 0, 1, 1, 1, 0, 14, 0, 2, 0, 0, 1, 1, 0, 0, 0, 1, 2, 1, 0, 0, 1, 0, 1, 0, 1, 0, 1, 0, 2, 0, 0, 1, 3, 1, 0,
            16, 0, 4, 4, 1, 2, 1, 4, 1, 2, 1, 3, 1, 3, 3, 1, 3])
        # begin, publish, work, flow, work, flow, crash, enter (5; 0 0), packets, hop 0, policy 1 0 5, switch 0,
        # knows 0, controller, counts.
        self.assertEqual(
            answers([0, 1, 9, 9, 9, 1, 4, 0, 5, 5, 1, 2, 7, 9, 2, 7, 9, 10, 11, 5, 2, 0, 0, 18, 12, 0, 13, 1, 0, 5,
                     14, 0, 15, 0, 16, 19]),
            [1, 0, 1, 1, 1, 0, 2, 0, 2, 1, 0, 2, 0, 2, 1, 0, 1, 0, 9, 0, 1, 5, 1, 1, 0, 2, 0, 0, 1, 5, 1, 1,
             8, 0, 1, 1, 0, 1, 1, 1, 1, 5, 0, 1, 0, 0, 0, 5, 0, 1, 0, 1, 0, 9, 0, 0, 0, 1, 1, 0, 0, 0, 0])

    def test_numbers_in_a_list_are_not_taken_for_calls(self):
        self.assertEqual(ask([begin(), publish_numbers([2, 2, 2]), tick(3), publish_numbers([1] * 128), work()]),
                         [[0], [-1], [0], [-1], [0]])
        self.assertEqual(ask([begin(), enter(11, 1, 1, 1), enter(7), work(), enter(17, *[17] * 128), hop(12)]),
                         [[0], [4], [-1], [0], [-1], [-1]])

    def test_the_numbers_given_back_are_whole_numbers(self):
        for number in answers(line(LONG)):
            self.assertIs(type(number), int)
        self.assertIs(type(answers(line(LONG))), list)

    def test_what_is_handed_in_is_not_changed(self):
        handed = line(LONG)
        kept = list(handed)
        answers(handed)
        self.assertEqual(handed, kept)

    def test_what_is_handed_in_is_not_changed_for_a_while_either(self):
        class Watched(list):
            def refuse(self, *given):
                raise AssertionError("changed")

            append = extend = insert = pop = remove = clear = sort = reverse = refuse
            __setitem__ = __delitem__ = __iadd__ = __imul__ = refuse

        self.assertEqual(answers(Watched(line(LONG))), answers(line(LONG)))

    def test_what_is_given_back_is_not_what_was_handed_in(self):
        handed = [0, 1, 1, 1, 1]
        given = answers(handed)
        given.append(7)
        self.assertEqual(handed, [0, 1, 1, 1, 1])
        self.assertEqual(answers(handed), [1, 0])

    def test_the_same_list_gives_the_same_answer_again(self):
        handed = line(LONG)
        first = answers(handed)
        answers(line([begin(16, 1, 1, 1), publish(), work(), restart(3)]))
        self.assertEqual(answers(handed), first)
        self.assertEqual(answers(handed), first)

    def test_nothing_is_kept_from_one_time_to_the_next(self):
        answers(line([begin(), publish(RULE), work(), restart(0), tick(9)]))
        self.assertEqual(ask([flow(1), tick(1), begin(), flow(9), restart(0), publish()]),
                         [[-20], [-20], [0], [0, 0], [3], [1]])

    def test_four_hundred_calls(self):
        self.assertEqual(ask([begin()] + [hello(0)] * 399), [[0]] * 400)

    def test_four_hundred_calls_with_packets(self):
        calls = [begin(), publish(RULE)] + turn() + [enter(7, 0, 1), hop()] * 196 + [packets(), counts()]
        self.assertEqual(len(calls), 400)
        self.assertEqual(ask(calls)[6:], [[0], [5]] * 196 + [[0, 0], [0, 0, 0, 196, 196, 0, 0, 0, 0]])

    def test_four_hundred_calls_of_all_kinds(self):
        # Packets pass while versions come and go: 16 calls for each of 20 versions, then 79 more.
        calls = [begin(2, 99, 1, 99)]
        told = [[0]]
        for v in range(1, 21):
            have = list(range(1, v + 1))
            calls += [publish(RULE)] + turn() + [
                enter(7, 0, 1), packets(), hop(), enter(4, 0), tick(1), work(), flow(), switch(0), knows(1),
                controller(), policy(v, 1, 9)]
            told += [[v], [0], [0, 4], [0], [0, 4], [0], [0, 1, 7, 1, v, v - 1, 2, 0, 1], [5], [1], [0], [0]]
            if v == 1:
                told += [[0, 0], [0, 1, 1, 0, 1, 1, 1, 1], [0, 2, 1, 1, 1, 0]]
            else:
                told += [[0, 4], [0, 1, v, v - 1, 1, v, 1, 1], [0, 2, v, v] + have + [v - 1] + have[:-1]]
            told += [[0, v, 0, v, 0], [1]]
        calls += [bag()] * 15 + [packets()] * 40 + [counts()] * 24
        told += [[0, 0]] * 55 + [[0, 20, 0, 40, 20, 20, 0, 0, 0]] * 24
        self.assertEqual(len(calls), 400)
        self.assertEqual(ask(calls), told)

    def test_the_longest_list(self):
        # 122 calls of 130 numbers each and a begin: nearly 16000 numbers.
        told = ask([begin()] + [publish_numbers([0] * 128)] * 122)
        self.assertEqual(told, [[0]] + [[-1]] * 122)


class NotBegun(unittest.TestCase):
    def test_each_other_call_answers_20_below_0(self):
        for call in OTHERS:
            with self.subTest(call=call):
                self.assertEqual(ask([call]), [[-20]])

    def test_the_call_behind_it_is_read_where_it_begins(self):
        for call in OTHERS:
            with self.subTest(call=call):
                self.assertEqual(ask([call, begin(), restart(0)]), [[-20], [0], [3]])

    def test_all_of_them_behind_one_another(self):
        self.assertEqual(ask(OTHERS + OTHERS), [[-20]] * (2 * len(OTHERS)))

    def test_wrong_arguments_change_nothing_of_it(self):
        calls = [publish_numbers([1, 2, 3]), publish_numbers([9] * 128), publish_numbers([])]
        for number in (-1, 0, LEAST, GREATEST):
            calls += [tick(number), deliver(number), lose(number), double(number), flow(number), restart(number),
                      hello(number), enter(number, number), hop(number), policy(number, number, number), switch(number),
                      knows(number)]
        self.assertEqual(ask(calls), [[-20]] * len(calls))

    def test_a_refused_begin_has_not_begun(self):
        for call in OTHERS:
            with self.subTest(call=call):
                self.assertEqual(ask([begin(0), call]), [[-1], [-20]])

    def test_what_was_called_before_begin_has_done_nothing(self):
        calls = [publish(RULE), tick(5), restart(0), hello(0), begin(), flow(5), restart(0), publish()]
        self.assertEqual(ask(calls)[4:], [[0], [0, 0], [3], [1]])

    def test_after_begin_no_call_answers_it(self):
        for call in OTHERS:
            with self.subTest(call=call):
                self.assertNotEqual(last([begin(), call]), [-20])


if __name__ == "__main__":
    unittest.main()
