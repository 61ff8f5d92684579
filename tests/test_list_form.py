"""How calls are handed in and answers are given back."""

import unittest

from calls import (
    TOP, applied, begin, compare, create, deliver, joined, known, last, message, pending, run, send, send_one, stable,
    vector,
)
from vectordelivery.replicas import answers


class LockedList(list):
    """A list that refuses every change, also one that is taken back later."""

    def refuse(self, *args, **kwargs):
        raise AssertionError("what was handed in was changed")

    __setitem__ = __delitem__ = __iadd__ = __imul__ = refuse
    append = extend = insert = pop = remove = clear = sort = reverse = refuse


MIXED = [
    begin(3), create(0, 7), send(0, 1), create(1, 8), deliver(0), send(1, 2), send_one(1, 2, 1, 1),
    deliver(2), deliver(1), applied(2), applied(9), deliver(77), create(TOP, TOP), send(0, 0),
    create(0, 9), create(0, 10), send_one(0, 2, 0, 3), deliver(3), pending(2), vector(2), known(2, 0), known(2, 2),
    stable(2), compare(0, 1, 1, 1), compare(1, 1, 0, 1), compare(0, 3, 1, 1), message(1), message(3), pending(3),
    vector(TOP), known(0, 3), stable(3), compare(0, 0, 0, 1), message(4), applied(0),
]


class ListForm(unittest.TestCase):
    def test_one_call(self):
        self.assertEqual(answers([1, 3]), [1, 0])
        self.assertEqual(answers([2, 0, 9]), [1, 1])
        self.assertEqual(answers([3, 0, 0]), [1, -2])
        self.assertEqual(answers([4, 0, 0, 0, 1]), [1, -2])
        self.assertEqual(answers([5, 0]), [1, -2])
        self.assertEqual(answers([6, 0]), [1, 0])
        self.assertEqual(answers([7, 0]), [1, 0])
        self.assertEqual(answers([8, 0]), [2, 0, 0])
        self.assertEqual(answers([9, 0, 0]), [2, 0, 0])
        self.assertEqual(answers([10, 0]), [2, 0, 0])
        self.assertEqual(answers([11, 0, 1, 0, 1]), [1, -2])
        self.assertEqual(answers([12, 0]), [1, -2])

    def test_several_calls_one_behind_another(self):
        calls = [1, 2, 2, 0, 50, 2, 0, 60, 3, 0, 1, 4, 0, 1, 0, 2, 5, 1, 5, 0, 6, 1, 6, 2]
        self.assertEqual(answers(calls), [
            1, 0,
            1, 1,
            1, 2,
            2, 0, 2,
            1, 1,
            2, 0, 1,
            2, 2, 0,
            7, 2, 0, 1, 50, 0, 2, 60,
            1, -2,
        ])

    def test_the_six_calls_that_ask_more(self):
        calls = [1, 2, 2, 0, 50, 2, 0, 60, 4, 0, 1, 0, 2, 5, 0]
        asked = [7, 1, 8, 0, 9, 1, 0, 10, 1, 11, 0, 1, 0, 2, 11, 0, 2, 0, 1, 11, 0, 1, 0, 1, 12, 0]
        refused = [7, 2, 8, 2, 9, 0, 2, 10, 2, 11, 0, 1, 1, 1, 12, 1]
        self.assertEqual(answers(calls + asked + refused)[11:], [
            4, 1, 0, 2, 60,
            3, 0, 2, 0,
            3, 0, 2, 0,
            3, 0, 0, 0,
            1, 1,
            1, 2,
            1, 0,
            3, 1, 0, 2,
        ] + [1, -2] * 6)

    def test_all_twelve_in_any_order_without_begin(self):
        calls = [
            message(0), compare(0, 1, 0, 1), stable(0), known(0, 0), vector(0), pending(0), applied(0), deliver(0),
            send_one(0, 0, 0, 1), send(0, 1), create(0, 5), compare(0, 1, 0, 1), begin(1), vector(0),
        ]
        self.assertEqual(run(*calls), [
            [-2], [-2], [0, 0], [0, 0], [0, 0], [0], [0], [-2], [-2], [-2], [1], [0], [0], [0, 0],
        ])

    def test_an_argument_is_not_taken_for_a_call(self):
        self.assertEqual(answers([2, 0, 1, 2, 0, 6, 6, 0]), [1, 1, 1, 2, 7, 2, 0, 1, 1, 0, 2, 6])

    def test_an_error_is_one_number_and_the_calls_behind_it_go_on(self):
        self.assertEqual(answers([1, 0, 6, 5, 5, 0, 2, 0, 4]), [1, -1, 1, -2, 1, -2, 1, 1])

    def test_what_is_handed_in_is_not_changed(self):
        calls = joined(MIXED)
        before = list(calls)
        answers(calls)
        self.assertEqual(calls, before)
        self.assertEqual(answers(LockedList(before)), answers(before))

    def test_nothing_is_kept_from_one_time_to_the_next(self):
        first = answers(joined(MIXED))
        self.assertEqual(answers(joined(MIXED)), first)
        self.assertEqual(last(create(0, 5)), [1])
        self.assertEqual(last(create(0, 5)), [1])
        self.assertEqual(last(applied(0)), [0])
        self.assertEqual(last(deliver(0)), [-2])
        self.assertEqual(last(applied(1)), [-2])
        self.assertEqual(last(pending(0)), [0])
        self.assertEqual(last(vector(0)), [0, 0])
        self.assertEqual(last(known(0, 0)), [0, 0])
        self.assertEqual(last(stable(0)), [0, 0])
        self.assertEqual(last(compare(0, 1, 0, 1)), [-2])
        self.assertEqual(last(message(0)), [-2])

    def test_two_lists_do_not_touch_each_other(self):
        lists = [joined(MIXED), joined(MIXED[:9]), [8, 0], [7, 0, 2, 0, 3, 8, 0], joined([begin(6), known(5, 0)])]
        alone = [answers(list(calls)) for calls in lists]
        for first in range(len(lists)):
            for second in range(len(lists)):
                self.assertEqual(answers(lists[first]), alone[first])
                self.assertEqual(answers(lists[second]), alone[second])

    def test_a_vector_that_was_told_does_not_change_with_later_calls(self):
        calls = [create(0, 1), vector(0), known(0, 0), stable(0), create(0, 1), vector(0), known(0, 0), stable(0)]
        self.assertEqual(run(*calls), [[1], [0, 1], [0, 1], [0, 1], [2], [0, 2], [0, 2], [0, 2]])

    def test_an_answer_that_is_changed_does_not_touch_the_next(self):
        first = answers(joined(MIXED))
        kept = list(first)
        first.clear()
        self.assertEqual(answers(joined(MIXED)), kept)

    def test_answers_are_a_list_of_whole_numbers(self):
        results = answers(joined(MIXED))
        self.assertIs(list, type(results))
        self.assertEqual({int}, {type(number) for number in results})

    def test_the_largest_numbers(self):
        calls = [
            begin(TOP), create(TOP, 0), create(0, TOP), send(TOP, 0), send(0, TOP), send_one(TOP, 0, 0, 1),
            send_one(0, TOP, 0, 1), deliver(TOP), applied(TOP), pending(TOP), vector(TOP), known(TOP, 0), known(0, TOP),
            stable(TOP), compare(TOP, 1, 0, TOP), compare(TOP, TOP, TOP, TOP), message(TOP),
        ]
        self.assertEqual(run(*calls), [[-1], [-2], [-1]] + [[-2]] * 14)

    def test_a_list_of_300_calls(self):
        calls = [begin(2)] + [create(0, k) for k in range(60)] + [send(0, 1)] * 200 + [deliver(199)] * 39
        results = run(*calls)
        self.assertEqual(len(results), 300)
        self.assertEqual(results[261:], [[60, 0]] + [[0, 0]] * 38)

    def test_300_calls_with_the_longest_answers(self):
        calls = [begin(2)] + [create(0, k) for k in range(60)] + [send(0, 1)]
        calls = calls + [message(0)] * 60 + [applied(0)] * 60 + [compare(0, k + 1, 0, 60) for k in range(60)]
        calls = calls + [send_one(0, 1, 0, k + 1) for k in range(1, 30)]
        calls = calls + [deliver(k + 1) for k in range(28)] + [pending(1)]
        self.assertEqual(len(calls), 300)
        results = run(*calls)
        self.assertEqual(results[62:122], [[60] + [part for k in range(1, 61) for part in (0, k)]] * 60)
        self.assertEqual(results[122:182], [[60] + [part for k in range(60) for part in (0, k + 1, k)]] * 60)
        self.assertEqual(results[182:242], [[1]] * 59 + [[0]])
        self.assertEqual(results[299], [28] + [part for k in range(1, 29) for part in (0, k + 1, k)])


if __name__ == "__main__":
    unittest.main()
