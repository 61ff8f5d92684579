"""How calls are handed in and answers are given back."""

import unittest

from calls import TOP, applied, begin, create, deliver, joined, last, run, send, send_one
from vectordelivery.replicas import answers


class LockedList(list):
    """A list that refuses every change, also one that is taken back later."""

    def refuse(self, *args, **kwargs):
        raise AssertionError("what was handed in was changed")

    __setitem__ = __delitem__ = __iadd__ = __imul__ = refuse
    append = extend = insert = pop = remove = clear = sort = reverse = refuse


MIXED = [
    begin(3), create(0, 7), send(0, 1), create(1, 8), deliver(0), send(1, 2), send_one(1, 2, 1, 1),
    deliver(2), deliver(1), applied(2), applied(9), deliver(77), create(TOP, TOP), send(0, 0),
]


class ListForm(unittest.TestCase):
    def test_one_call(self):
        self.assertEqual(answers([1, 3]), [1, 0])
        self.assertEqual(answers([2, 0, 9]), [1, 1])
        self.assertEqual(answers([3, 0, 0]), [1, -2])
        self.assertEqual(answers([4, 0, 0, 0, 1]), [1, -2])
        self.assertEqual(answers([5, 0]), [1, -2])
        self.assertEqual(answers([6, 0]), [1, 0])

    def test_several_calls_one_behind_another(self):
        calls = [1, 2, 2, 0, 50, 2, 0, 60, 3, 0, 1, 4, 0, 1, 0, 2, 5, 1, 5, 0, 6, 1, 6, 2]
        self.assertEqual(answers(calls), [
            1, 0,
            1, 1,
            1, 2,
            2, 0, 2,
            1, 1,
            2, 0, 1,
            2, 2, 0,
            7, 2, 0, 1, 50, 0, 2, 60,
            1, -2,
        ])

    def test_an_argument_is_not_taken_for_a_call(self):
        self.assertEqual(answers([2, 0, 1, 2, 0, 6, 6, 0]), [1, 1, 1, 2, 7, 2, 0, 1, 1, 0, 2, 6])

    def test_an_error_is_one_number_and_the_calls_behind_it_go_on(self):
        self.assertEqual(answers([1, 0, 6, 5, 5, 0, 2, 0, 4]), [1, -1, 1, -2, 1, -2, 1, 1])

    def test_what_is_handed_in_is_not_changed(self):
        calls = joined(MIXED)
        before = list(calls)
        answers(calls)
        self.assertEqual(calls, before)
        self.assertEqual(answers(LockedList(before)), answers(before))

    def test_nothing_is_kept_from_one_time_to_the_next(self):
        first = answers(joined(MIXED))
        self.assertEqual(answers(joined(MIXED)), first)
        self.assertEqual(last(create(0, 5)), [1])
        self.assertEqual(last(create(0, 5)), [1])
        self.assertEqual(last(applied(0)), [0])
        self.assertEqual(last(deliver(0)), [-2])
        self.assertEqual(last(applied(1)), [-2])

    def test_an_answer_that_is_changed_does_not_touch_the_next(self):
        first = answers(joined(MIXED))
        kept = list(first)
        first.clear()
        self.assertEqual(answers(joined(MIXED)), kept)

    def test_answers_are_a_list_of_whole_numbers(self):
        results = answers(joined(MIXED))
        self.assertIs(list, type(results))
        self.assertEqual({int}, {type(number) for number in results})

    def test_the_largest_numbers(self):
        calls = [
            begin(TOP), create(TOP, 0), create(0, TOP), send(TOP, 0), send(0, TOP), send_one(TOP, 0, 0, 1),
            send_one(0, TOP, 0, 1), deliver(TOP), applied(TOP),
        ]
        self.assertEqual(run(*calls), [[-1], [-2], [-1], [-2], [-2], [-2], [-2], [-2], [-2]])

    def test_a_list_of_300_calls(self):
        calls = [begin(2)] + [create(0, k) for k in range(60)] + [send(0, 1)] * 200 + [deliver(199)] * 39
        results = run(*calls)
        self.assertEqual(len(results), 300)
        self.assertEqual(results[261:], [[60, 0]] + [[0, 0]] * 38)


if __name__ == "__main__":
    unittest.main()
