"""pending: what waits, in which order, and when it waits no longer."""

import unittest

from calls import (
    NOT_THERE, TOP, applied, begin, compare, create, deliver, last, order, pending, run, send, send_one,
)

# Replica 0 has four events; messages 0 to 3 bring replica 1 one each, in their order.
FOUR = [begin(2)] + [create(0, k) for k in (5, 6, 7, 8)] + [send_one(0, 1, 0, k) for k in (1, 2, 3, 4)]

# Replicas 0, 1 and 3 have three events each, of which the first depends on (4, 1).
# Messages 3 to 8 bring replica 2 their second and third ones; message 9 brings it (4, 1).
SEVERAL = [begin(6), create(4, 40), send(4, 0), send(4, 1), send(4, 3), deliver(0), deliver(1), deliver(2)]
SEVERAL += [create(replica, 10 * replica + k) for k in (1, 2, 3) for replica in (3, 0, 1)]
SEVERAL += [send_one(replica, 2, replica, number) for replica in (0, 1, 3) for number in (2, 3)]
SEVERAL += [send(4, 2)]


class Pending(unittest.TestCase):
    def test_none_in_a_new_session(self):
        self.assertEqual(run(pending(0)), [[0]])
        for count in range(1, 7):
            calls = [begin(count)] + [pending(k) for k in range(count)]
            self.assertEqual(run(*calls)[1:], [[0]] * count)

    def test_own_events_and_applied_ones_are_not_pending(self):
        calls = [begin(2), create(0, 5), create(0, 6), pending(0), send(0, 1), pending(1), deliver(0), pending(1)]
        self.assertEqual([run(*calls)[k] for k in (3, 5, 7)], [[0]] * 3)

    def test_an_event_that_waits_is_told_with_its_value(self):
        self.assertEqual(run(*FOUR, deliver(1), pending(1), pending(0))[9:], [[0, 1], [1, 0, 2, 6], [0]])

    def test_the_events_of_one_replica_stand_by_their_numbers(self):
        for arrivals in ((1, 2, 3), (3, 2, 1), (2, 3, 1), (3, 1, 2)):
            calls = FOUR + [deliver(number) for number in arrivals]
            self.assertEqual(last(*calls, pending(1)), [3, 0, 2, 6, 0, 3, 7, 0, 4, 8])

    def test_the_events_of_several_replicas_stand_by_replica_then_by_number(self):
        expected = [6, 0, 2, 2, 0, 3, 3, 1, 2, 12, 1, 3, 13, 3, 2, 32, 3, 3, 33]
        for arrivals in ((3, 4, 5, 6, 7, 8), (8, 7, 6, 5, 4, 3), (5, 8, 3, 7, 4, 6), (7, 4, 6, 3, 8, 5)):
            calls = SEVERAL + [deliver(number) for number in arrivals]
            self.assertEqual(run(*calls, pending(2))[-2:], [[0, 6], expected])

    def test_the_same_event_twice_is_there_once(self):
        calls = FOUR + [send_one(0, 1, 0, 3), deliver(2), deliver(2), deliver(4), pending(1)]
        self.assertEqual(run(*calls)[10:], [[0, 1], [0, 1], [0, 1], [1, 0, 3, 7]])

    def test_the_same_event_from_two_replicas_is_there_once(self):
        calls = [begin(3), create(0, 5), create(0, 6), send(0, 2), deliver(0), send_one(0, 1, 0, 2), send_one(2, 1, 0, 2)]
        self.assertEqual(run(*calls, deliver(1), deliver(2), pending(1))[7:], [[0, 1], [0, 1], [1, 0, 2, 6]])

    def test_an_event_that_can_be_applied_leaves_the_others_waiting(self):
        calls = FOUR + [deliver(3), deliver(1), deliver(0), pending(1), applied(1), deliver(2), pending(1)]
        self.assertEqual(run(*calls)[9:], [
            [0, 1], [0, 2], [2, 1], [1, 0, 4, 8], [2, 0, 1, 5, 0, 2, 6], [2, 0], [0],
        ])

    def test_the_missing_events_come_within_a_complete_message(self):
        calls = FOUR + [send(0, 1), deliver(3), deliver(1), pending(1), deliver(4), pending(1), applied(1)]
        self.assertEqual(run(*calls)[9:], [
            [4, 4], [0, 1], [0, 2], [2, 0, 2, 6, 0, 4, 8], [4, 0], [0], [4, 0, 1, 5, 0, 2, 6, 0, 3, 7, 0, 4, 8],
        ])

    def test_a_complete_message_that_was_created_before_what_waits(self):
        # The complete message holds events 1 and 2 alone, so 4 goes on waiting for 3.
        calls = [begin(2), create(0, 5), create(0, 6), send(0, 1), create(0, 7), create(0, 8), send_one(0, 1, 0, 4)]
        results = run(*calls, deliver(1), deliver(0), pending(1), applied(1))
        self.assertEqual(results[7:], [[0, 1], [2, 1], [1, 0, 4, 8], [2, 0, 1, 5, 0, 2, 6]])

    def test_an_event_waits_for_one_of_another_replica(self):
        calls = [begin(3), create(0, 5), send(0, 1), deliver(0), create(1, 6), send_one(1, 2, 1, 1), deliver(1), pending(2)]
        self.assertEqual(last(*calls), [1, 1, 1, 6])
        self.assertEqual(last(*calls, send(0, 2), deliver(2), pending(2)), [0])

    def test_a_delivery_reaches_the_pending_events_of_the_receiver_alone(self):
        calls = [begin(3), create(0, 5), create(0, 6), send_one(0, 1, 0, 2), send_one(0, 2, 0, 2), deliver(0)]
        self.assertEqual(run(*calls, pending(0), pending(1), pending(2))[6:], [[0], [1, 0, 2, 6], [0]])
        more = [deliver(1), send(0, 1), deliver(2)]
        self.assertEqual(run(*calls, *more, pending(1), pending(2))[9:], [[0], [1, 0, 2, 6]])

    def test_creating_and_sending_leave_what_is_pending(self):
        calls = FOUR + [deliver(2), create(1, 9), send(1, 0), send_one(1, 0, 1, 1), pending(1)]
        self.assertEqual(last(*calls), [1, 0, 3, 7])

    def test_after_every_delivery_no_pending_event_can_be_applied_and_none_has_been(self):
        existing = [(4, 1)] + [(replica, number) for replica in (0, 1, 3) for number in (1, 2, 3)]
        calls = SEVERAL + [send_one(replica, 2, replica, 1) for replica in (3, 0, 1)]
        for number in (5, 8, 10, 3, 7, 9, 4, 11, 6, 12):
            calls = calls + [deliver(number)]
            done, waiting = order(*calls, applied(2)), order(*calls, pending(2))
            self.assertEqual(last(*calls)[1], len(waiting))
            self.assertEqual(set(done) & set(waiting), set())
            for event in waiting:
                needed = [one for one in existing if last(*calls, compare(*one, *event)) == [1]]
                self.assertNotEqual(set(needed) - set(done), set())
        self.assertEqual(waiting, [])
        self.assertEqual(sorted(done), sorted(existing))

    def test_no_such_replica(self):
        self.assertEqual(run(pending(1), pending(TOP)), [NOT_THERE] * 2)
        self.assertEqual(run(begin(6), pending(5), pending(6), pending(TOP))[1:], [[0], NOT_THERE, NOT_THERE])
        self.assertEqual(run(*FOUR, deliver(3), pending(2), pending(1))[10:], [NOT_THERE, [1, 0, 4, 8]])

    def test_asking_changes_nothing(self):
        calls = FOUR + [deliver(3), pending(1), pending(1), pending(2), pending(1), deliver(0), pending(1)]
        self.assertEqual(run(*calls)[10:], [[1, 0, 4, 8]] * 2 + [NOT_THERE, [1, 0, 4, 8], [1, 1], [1, 0, 4, 8]])


if __name__ == "__main__":
    unittest.main()
