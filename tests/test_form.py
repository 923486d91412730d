"""The interface: the list handed in, the list given back, and -20 till begin has answered 0."""

import unittest

from policyturn.rollout import answers
from tests.helper import (GREATEST, LEAST, RULE, ask, begin, deliver, double, flow, hello, last, line, lose, publish,
                          publish_numbers, restart, tick, turn, work)

# One of each call that isn't begin, as DOC.md writes them.
OTHERS = [
    publish(RULE), work(), tick(1), deliver(0), lose(0), double(0), flow(1), restart(0), hello(0), [10],
    [11, 7, 2, 0, 1], [12, 0], [13, 1, 0, 7], [14, 0], [15, 0], [16], [17], [18], [19],
]
LONG = [begin(3, 20, 5, 1), publish(RULE, [2, 0, 65535, 0])] + turn() + [
    publish(), tick(3), work(), double(1), lose(0), deliver(2), restart(1), flow(4), hello(0), work(), flow(),
    publish(RULE), tick(0), lose(99),
]


class Form(unittest.TestCase):
    def test_the_example_number_by_number(self):
        calls = [0, 2, 99, 10, 9, 1, 4, -1, 5, 9, 1, 2, 7, 9, 2, 7, 9]
        self.assertEqual(answers(calls), [1, 0, 1, 1, 1, 0, 2, 0, 4, 1, 0, 2, 0, 4])

    def test_a_single_call(self):
        self.assertEqual(answers([0, 1, 1, 1, 1]), [1, 0])
        self.assertEqual(answers([2]), [1, -20])

    def test_a_refusal_is_its_number_alone(self):
        self.assertEqual(answers([0, 2, 9, 9, 9, 7, -1, 3, 0, 4, 0]), [1, 0, 1, -1, 1, -1, 1, -1])

    def test_numbers_in_a_list_are_not_taken_for_calls(self):
        self.assertEqual(ask([begin(), publish_numbers([2, 2, 2]), tick(3), publish_numbers([1] * 128), work()]),
                         [[0], [-1], [0], [-1], [0]])

    def test_the_numbers_given_back_are_whole_numbers(self):
        for number in answers(line(LONG)):
            self.assertIs(type(number), int)
        self.assertIs(type(answers(line(LONG))), list)

    def test_what_is_handed_in_is_not_changed(self):
        handed = line(LONG)
        kept = list(handed)
        answers(handed)
        self.assertEqual(handed, kept)

    def test_what_is_handed_in_is_not_changed_for_a_while_either(self):
        class Watched(list):
            def refuse(self, *given):
                raise AssertionError("changed")

            append = extend = insert = pop = remove = clear = sort = reverse = refuse
            __setitem__ = __delitem__ = __iadd__ = __imul__ = refuse

        self.assertEqual(answers(Watched(line(LONG))), answers(line(LONG)))

    def test_what_is_given_back_is_not_what_was_handed_in(self):
        handed = [0, 1, 1, 1, 1]
        given = answers(handed)
        given.append(7)
        self.assertEqual(handed, [0, 1, 1, 1, 1])
        self.assertEqual(answers(handed), [1, 0])

    def test_the_same_list_gives_the_same_answer_again(self):
        handed = line(LONG)
        first = answers(handed)
        answers(line([begin(16, 1, 1, 1), publish(), work(), restart(3)]))
        self.assertEqual(answers(handed), first)
        self.assertEqual(answers(handed), first)

    def test_nothing_is_kept_from_one_time_to_the_next(self):
        answers(line([begin(), publish(RULE), work(), restart(0), tick(9)]))
        self.assertEqual(ask([flow(1), tick(1), begin(), flow(9), restart(0), publish()]),
                         [[-20], [-20], [0], [0, 0], [3], [1]])

    def test_four_hundred_calls(self):
        self.assertEqual(ask([begin()] + [hello(0)] * 399), [[0]] * 400)

    def test_the_longest_list(self):
        # 122 calls of 130 numbers each and a begin: nearly 16000 numbers.
        told = ask([begin()] + [publish_numbers([0] * 128)] * 122)
        self.assertEqual(told, [[0]] + [[-1]] * 122)


class NotBegun(unittest.TestCase):
    def test_each_other_call_answers_20_below_0(self):
        for call in OTHERS:
            with self.subTest(call=call):
                self.assertEqual(ask([call]), [[-20]])

    def test_the_call_behind_it_is_read_where_it_begins(self):
        for call in OTHERS:
            with self.subTest(call=call):
                self.assertEqual(ask([call, begin(), restart(0)]), [[-20], [0], [3]])

    def test_all_of_them_behind_one_another(self):
        self.assertEqual(ask(OTHERS + OTHERS), [[-20]] * (2 * len(OTHERS)))

    def test_wrong_arguments_change_nothing_of_it(self):
        calls = [publish_numbers([1, 2, 3]), publish_numbers([9] * 128), publish_numbers([])]
        for number in (-1, 0, LEAST, GREATEST):
            calls += [tick(number), deliver(number), lose(number), double(number), flow(number), restart(number),
                      hello(number)]
        self.assertEqual(ask(calls), [[-20]] * len(calls))

    def test_a_refused_begin_has_not_begun(self):
        for call in OTHERS:
            with self.subTest(call=call):
                self.assertEqual(ask([begin(0), call]), [[-1], [-20]])

    def test_what_was_called_before_begin_has_done_nothing(self):
        calls = [publish(RULE), tick(5), restart(0), hello(0), begin(), flow(5), restart(0), publish()]
        self.assertEqual(ask(calls)[4:], [[0], [0, 0], [3], [1]])

    def test_after_begin_no_call_answers_it(self):
        for call in OTHERS[:9]:
            with self.subTest(call=call):
                self.assertNotEqual(last([begin(), call]), [-20])


if __name__ == "__main__":
    unittest.main()
