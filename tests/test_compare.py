"""compare: which of two events depends on the other one."""

import unittest

from calls import NOT_THERE, TOP, applied, begin, compare, create, deliver, last, run, send, send_one, vector

FIRST, SECOND, NEITHER = [1], [2], [0]

# (1, 1) depends on (0, 1), and (2, 1) depends on (1, 1); (0, 2) came after (0, 1) was sent.
CHAIN = [
    begin(4), create(0, 5), send(0, 1), create(0, 6), deliver(0), create(1, 7), send_one(1, 2, 1, 1), send(0, 2),
    send(1, 2), deliver(3), create(2, 8),
]


class Compare(unittest.TestCase):
    def assert_relation(self, calls, first, second, relation):
        """Both ways round: what is 1 one way is 2 the other way, and 0 stays."""
        swapped = {1: SECOND, 2: FIRST, 0: NEITHER}[relation[0]]
        results = run(*calls, compare(*first, *second), compare(*second, *first))
        self.assertEqual(results[-2:], [relation, swapped])

    def test_two_events_of_one_replica(self):
        calls = [create(0, 5), create(0, 6), create(0, 7)]
        self.assert_relation(calls, (0, 1), (0, 2), FIRST)
        self.assert_relation(calls, (0, 1), (0, 3), FIRST)
        self.assert_relation(calls, (0, 3), (0, 2), SECOND)
        self.assert_relation([begin(6)] + [create(5, 1)] * 3, (5, 2), (5, 3), FIRST)

    def test_an_event_with_itself(self):
        self.assertEqual(last(create(0, 5), compare(0, 1, 0, 1)), NEITHER)
        self.assertEqual(last(create(0, 5), create(0, 6), compare(0, 2, 0, 2)), NEITHER)
        self.assertEqual(last(*CHAIN, compare(2, 1, 2, 1)), NEITHER)

    def test_an_event_that_was_applied_before(self):
        self.assert_relation(CHAIN, (0, 1), (1, 1), FIRST)
        self.assert_relation(CHAIN, (1, 1), (2, 1), FIRST)

    def test_through_a_third_event(self):
        self.assert_relation(CHAIN, (0, 1), (2, 1), FIRST)

    def test_events_that_know_nothing_of_each_other(self):
        self.assert_relation([begin(2), create(0, 5), create(1, 6)], (0, 1), (1, 1), NEITHER)
        self.assert_relation(CHAIN, (0, 2), (1, 1), NEITHER)
        self.assert_relation(CHAIN, (0, 2), (2, 1), NEITHER)

    def test_the_same_number_at_two_replicas_is_two_events(self):
        calls = [begin(2), create(0, 5), create(0, 6), create(1, 7), send(0, 1), deliver(0), create(1, 8)]
        self.assert_relation(calls, (0, 1), (1, 1), NEITHER)
        self.assert_relation(calls, (0, 2), (1, 1), NEITHER)
        self.assert_relation(calls, (0, 2), (1, 2), FIRST)
        self.assert_relation(calls, (1, 1), (0, 2), NEITHER)

    def test_an_event_that_its_own_replica_alone_has_applied(self):
        calls = CHAIN + [create(3, 9), create(3, 10)]
        self.assert_relation(calls, (3, 1), (3, 2), FIRST)
        self.assert_relation(calls, (3, 1), (0, 1), NEITHER)
        self.assert_relation(CHAIN, (2, 1), (0, 2), NEITHER)

    def test_events_that_lie_only_in_messages_or_wait(self):
        # (0, 2) waits at 1, and what 1 creates then does not depend on it.
        calls = [begin(2), create(0, 5), create(0, 6), send_one(0, 1, 0, 2), deliver(0), create(1, 7)]
        self.assert_relation(calls, (0, 2), (1, 1), NEITHER)
        self.assert_relation(calls, (0, 1), (1, 1), NEITHER)
        self.assert_relation(calls, (0, 1), (0, 2), FIRST)

    def test_a_message_that_was_sent_but_not_delivered_counts_for_nothing(self):
        self.assert_relation([begin(2), create(0, 5), send(0, 1), create(1, 6)], (0, 1), (1, 1), NEITHER)

    def test_later_deliveries_do_not_change_what_an_event_depends_on(self):
        pairs = [(0, 1), (0, 2), (1, 1), (2, 1)]
        questions = [compare(*first, *second) for first in pairs for second in pairs]
        before = run(*CHAIN, *questions)[len(CHAIN):]
        later = [deliver(2), deliver(1), send(2, 0), deliver(4), send(0, 1), deliver(5), send(2, 3), deliver(6)]
        calls = CHAIN + later + [create(replica, 9) for replica in range(4)]
        vectors = run(*calls, vector(0), vector(1), vector(2))[-3:]
        self.assertEqual(vectors, [[0, 3, 1, 1, 0], [0, 2, 2, 1, 0], [0, 2, 1, 2, 0]])
        self.assertEqual(run(*calls, *questions)[len(calls):], before)
        self.assert_relation(calls, (0, 2), (1, 2), FIRST)

    def test_only_the_vector_directly_before_the_event_counts(self):
        calls = [begin(2), create(0, 5), create(1, 6), send(0, 1), deliver(0), create(1, 7)]
        self.assert_relation(calls, (0, 1), (1, 1), NEITHER)
        self.assert_relation(calls, (0, 1), (1, 2), FIRST)

    def test_with_six_replicas(self):
        calls = [begin(6), create(0, 1)]
        for k in range(5):
            calls = calls + [send(k, k + 1), deliver(k), create(k + 1, 1)]
        for first in range(6):
            for second in range(first + 1, 6):
                self.assert_relation(calls, (first, 1), (second, 1), FIRST)

    def test_events_that_do_not_exist(self):
        self.assertEqual(run(compare(0, 1, 0, 1), compare(0, 0, 0, 0), compare(TOP, TOP, TOP, TOP)), [NOT_THERE] * 3)
        calls = [begin(2), create(0, 5), create(0, 6), create(1, 7)]
        wrong = [(0, 0), (0, 3), (0, TOP), (1, 0), (1, 2), (1, TOP), (2, 0), (2, 1), (TOP, 1), (TOP, TOP)]
        for event in wrong:
            for other in [(0, 1), (1, 1), (0, 2)]:
                questions = [compare(*event, *other), compare(*other, *event), compare(*event, *event)]
                self.assertEqual(run(*calls, *questions)[4:], [NOT_THERE] * 3)
        for event in wrong:
            self.assertEqual(last(*calls, compare(*event, 0, 0)), NOT_THERE)
            self.assertEqual(last(*calls, compare(2, 1, *event)), NOT_THERE)

    def test_an_event_exists_once_it_is_created(self):
        calls = [begin(2), create(0, 5), compare(0, 1, 0, 2), create(0, 6), compare(0, 1, 0, 2)]
        self.assertEqual(run(*calls)[2::2], [NOT_THERE, FIRST])

    def test_a_refused_event_does_not_exist(self):
        calls = [begin(2), create(0, 5), create(0, TOP), create(2, 5), compare(0, 1, 0, 2), compare(0, 1, 2, 1)]
        self.assertEqual(run(*calls)[4:], [NOT_THERE] * 2)
        full = [create(0, 5)] * 61
        self.assertEqual(run(*full, compare(0, 1, 0, 60), compare(0, 1, 0, 61))[61:], [FIRST, NOT_THERE])

    def test_asking_changes_nothing(self):
        questions = [compare(0, 1, 1, 1), compare(0, 3, 0, 1), compare(1, 1, 4, 1), compare(2, 1, 2, 2)]
        ends = [applied(1), applied(2), vector(0), create(2, 3), send(1, 2)]
        self.assertEqual(run(*CHAIN, *questions, *ends)[-5:], run(*CHAIN, *ends)[-5:])


if __name__ == "__main__":
    unittest.main()
