"""begin, create and applied."""

import unittest

from calls import (
    NOT_THERE, OUT_OF_RANGE, TOO_MANY, TOP, applied, begin, create, deliver, last, run, send, send_one,
)


class Begin(unittest.TestCase):
    def test_from_one_to_six(self):
        for count in range(1, 7):
            calls = [begin(count)] + [applied(k) for k in range(count)] + [applied(count)]
            self.assertEqual(run(*calls), [[0]] + [[0]] * count + [NOT_THERE])

    def test_other_counts_are_out_of_range(self):
        for count in (0, 7, 8, 2 ** 63, TOP):
            self.assertEqual(run(begin(count)), [OUT_OF_RANGE])

    def test_without_begin_there_is_one_replica(self):
        calls = [create(0, 4), create(1, 4), applied(0), applied(1), send(0, 1), send(0, 0)]
        self.assertEqual(run(*calls), [[1], NOT_THERE, [1, 0, 1, 4], NOT_THERE, NOT_THERE, NOT_THERE])

    def test_a_refused_begin_changes_nothing(self):
        calls = [begin(3), create(1, 4), send(1, 2), begin(7), begin(0), begin(TOP), deliver(0), applied(2), create(1, 5)]
        self.assertEqual(run(*calls)[3:], [OUT_OF_RANGE] * 3 + [[1, 0], [1, 1, 1, 4], [2]])

    def test_begin_again_replaces_replicas_events_and_messages(self):
        calls = [begin(3), create(0, 4), send(0, 1), deliver(0), begin(2)]
        behind = [applied(0), applied(1), applied(2), deliver(0), send_one(0, 1, 0, 1), create(0, 9), send(0, 1)]
        self.assertEqual(run(*calls, *behind)[5:], [[0], [0], NOT_THERE, NOT_THERE, [-3], [1], [0, 1]])

    def test_begin_again_forgets_known_vectors(self):
        calls = [begin(2), create(0, 4), send(0, 1), deliver(0), send(1, 0)]
        self.assertEqual(last(*calls), [1, 0])
        again = [begin(2), create(0, 4), send(0, 1), create(1, 5), send(1, 0)]
        self.assertEqual(last(*calls, *again), [1, 1])
        # Had 1 still known that 0 has applied event 1 of 0, it would leave it out here.
        third = [begin(3), create(0, 4), send(0, 2), deliver(0), send(2, 1), deliver(1), send(1, 0)]
        self.assertEqual(last(*calls, *third), [2, 1])

    def test_begin_again_forgets_pending_events(self):
        calls = [begin(2), create(0, 4), create(0, 5), send_one(0, 1, 0, 2), deliver(0)]
        self.assertEqual(last(*calls), [0, 1])
        again = [begin(2), create(0, 6), send(0, 1), deliver(0)]
        self.assertEqual(last(*calls, *again), [1, 0])
        self.assertEqual(last(*calls, *again, applied(1)), [1, 0, 1, 6])

    def test_begin_again_counts_events_and_messages_anew(self):
        calls = [begin(2)] + [create(0, 1)] * 60 + [send(0, 1)] * 200
        again = [begin(2), create(1, 2), send(1, 0)]
        self.assertEqual(run(*calls, create(0, 1), send(0, 1), *again)[-5:], [TOO_MANY, TOO_MANY, [0], [1], [0, 1]])


class Create(unittest.TestCase):
    def test_each_replica_numbers_its_own_events(self):
        calls = [begin(3), create(0, 5), create(0, 6), create(2, 7), create(0, 8), create(1, 9)]
        self.assertEqual(run(*calls), [[0], [1], [2], [1], [3], [1]])

    def test_a_replica_applies_its_own_events_only(self):
        calls = [begin(2), create(0, 5), create(1, 6), create(0, 7), applied(0), applied(1)]
        self.assertEqual(run(*calls)[4:], [[2, 0, 1, 5, 0, 2, 7], [1, 1, 1, 6]])

    def test_values_at_the_edges(self):
        calls = [create(0, 0), create(0, 1000000000), create(0, 1000000001), create(0, TOP), applied(0)]
        self.assertEqual(run(*calls), [[1], [2], OUT_OF_RANGE, OUT_OF_RANGE, [2, 0, 1, 0, 0, 2, 1000000000]])

    def test_no_such_replica(self):
        calls = [begin(6), create(6, 1), create(TOP, 1), create(5, 1)]
        self.assertEqual(run(*calls)[1:], [NOT_THERE, NOT_THERE, [1]])

    def test_no_such_replica_goes_ahead_of_the_value(self):
        self.assertEqual(run(begin(2), create(2, 1000000001))[1], NOT_THERE)

    def test_event_60_and_the_one_after_it(self):
        calls = [begin(3)] + [create(k % 3, k) for k in range(60)]
        results = run(*calls, create(0, 1), create(1, 1), create(2, 1), applied(0), applied(1))
        self.assertEqual(results[60], [20])
        self.assertEqual(results[61:64], [TOO_MANY] * 3)
        self.assertEqual([len(result) for result in results[64:]], [61, 61])
        self.assertEqual(results[64][-3:], [0, 20, 57])

    def test_60_events_of_one_replica(self):
        results = run(*([create(0, 3)] * 61))
        self.assertEqual(results, [[k] for k in range(1, 61)] + [TOO_MANY])

    def test_applying_the_events_of_others_does_not_count(self):
        calls = [begin(6)] + [create(0, 1)] * 59
        for other in range(1, 6):
            calls = calls + [send(0, other), deliver(other - 1)]
        self.assertEqual(run(*calls, create(5, 1), create(5, 1))[-2:], [[1], TOO_MANY])

    def test_refused_events_do_not_count(self):
        calls = [create(0, 1)] * 59 + [create(1, 1), create(0, TOP)]
        self.assertEqual(run(*calls, create(0, 1), create(0, 1))[-2:], [[60], TOO_MANY])

    def test_the_order_of_errors_when_there_are_60_events(self):
        calls = [create(0, 1)] * 60
        results = run(*calls, create(1, TOP), create(1, 1), create(0, 1000000001), create(0, 1))
        self.assertEqual(results[60:], [NOT_THERE, NOT_THERE, OUT_OF_RANGE, TOO_MANY])

    def test_a_refused_create_changes_nothing(self):
        calls = [begin(2), create(0, 1), create(2, 1), create(0, TOP), applied(0), applied(1), create(0, 2), send(0, 1)]
        self.assertEqual(run(*calls)[4:], [[1, 0, 1, 1], [0], [2], [0, 2]])


class Applied(unittest.TestCase):
    def test_no_events(self):
        self.assertEqual(run(begin(2), applied(0), applied(1))[1:], [[0], [0]])

    def test_events_stand_in_the_order_in_which_they_were_applied(self):
        calls = [begin(3), create(2, 30), create(0, 10), send(2, 0), deliver(0), create(0, 11), applied(0)]
        self.assertEqual(last(*calls), [3, 0, 1, 10, 2, 1, 30, 0, 2, 11])

    def test_pending_events_are_not_among_them(self):
        calls = [begin(2), create(0, 1), create(0, 2), send_one(0, 1, 0, 2), deliver(0), applied(1)]
        self.assertEqual(last(*calls), [0])

    def test_no_such_replica(self):
        self.assertEqual(run(begin(4), applied(3), applied(4), applied(TOP))[1:], [[0], NOT_THERE, NOT_THERE])

    def test_asking_changes_nothing(self):
        calls = [begin(2), create(0, 1), applied(0), applied(0), applied(1), applied(2), send(0, 1)]
        self.assertEqual(run(*calls)[2:], [[1, 0, 1, 1], [1, 0, 1, 1], [0], NOT_THERE, [0, 1]])


if __name__ == "__main__":
    unittest.main()
