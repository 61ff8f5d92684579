"""deliver: what arrives, what waits, what is applied and in which order."""

import unittest

from calls import NOT_THERE, TOP, applied, begin, create, deliver, last, order, run, send, send_one

# Replica 0 has three events; messages 0 to 2 bring replica 1 one each, in their order.
THREE = [begin(2), create(0, 5), create(0, 6), create(0, 7)] + [send_one(0, 1, 0, number) for number in (1, 2, 3)]

# (1, 1) comes first; (2, 1) and (3, 1) depend on it, and (0, 1) depends on (2, 1).
# Messages 4 to 7 bring replica 4 the events (1, 1), (0, 1), (2, 1), (3, 1).
CHAIN = [
    begin(5), create(1, 10), send(1, 2), send(1, 3), deliver(0), deliver(1), create(2, 20), create(3, 30),
    send(2, 0), deliver(2), create(0, 40), send(3, 4),
    send_one(1, 4, 1, 1), send_one(0, 4, 0, 1), send_one(2, 4, 2, 1), send_one(3, 4, 3, 1),
]


class Deliver(unittest.TestCase):
    def test_in_order(self):
        self.assertEqual(run(*THREE, deliver(0), deliver(1), deliver(2))[7:], [[1, 0]] * 3)

    def test_out_of_order(self):
        results = run(*THREE, deliver(2), applied(1), deliver(1), applied(1), deliver(0), applied(1))
        self.assertEqual(results[7:], [[0, 1], [0], [0, 2], [0], [3, 0], [3, 0, 1, 5, 0, 2, 6, 0, 3, 7]])

    def test_a_gap_keeps_later_events_waiting(self):
        calls = [deliver(0), deliver(2), applied(1), deliver(1), applied(1)]
        results = run(*THREE, *calls)
        self.assertEqual(results[7:], [[1, 0], [0, 1], [1, 0, 1, 5], [2, 0], [3, 0, 1, 5, 0, 2, 6, 0, 3, 7]])

    def test_a_message_that_never_arrives(self):
        results = run(*THREE, deliver(1), deliver(2), create(1, 9), applied(1))
        self.assertEqual(results[7:], [[0, 1], [0, 2], [1], [1, 1, 1, 9]])

    def test_only_the_receiver_is_reached(self):
        calls = [begin(3), create(0, 1), send(0, 1), deliver(0), applied(0), applied(1), applied(2)]
        self.assertEqual(run(*calls)[4:], [[1, 0, 1, 1], [1, 0, 1, 1], [0]])

    def test_twice_in_a_row(self):
        results = run(*THREE, deliver(0), deliver(0), applied(1), deliver(2), deliver(2), deliver(1), deliver(1))
        self.assertEqual(results[7:], [[1, 0], [0, 0], [1, 0, 1, 5], [0, 1], [0, 1], [2, 0], [0, 0]])

    def test_again_much_later(self):
        calls = THREE + [deliver(0), deliver(1), deliver(2), create(1, 9), deliver(0), deliver(2), applied(1)]
        results = run(*calls)
        self.assertEqual(results[11:], [[0, 0], [0, 0], [4, 0, 1, 5, 0, 2, 6, 0, 3, 7, 1, 1, 9]])

    def test_an_event_that_is_pending_already(self):
        calls = THREE + [send_one(0, 1, 0, 3), deliver(2), deliver(3), deliver(0), deliver(1), applied(1)]
        self.assertEqual(run(*calls)[8:], [[0, 1], [0, 1], [1, 1], [2, 0], [3, 0, 1, 5, 0, 2, 6, 0, 3, 7]])

    def test_a_message_with_applied_pending_and_new_events(self):
        calls = THREE + [create(0, 8), create(0, 9), send(0, 1), deliver(0), deliver(2), deliver(3), applied(1)]
        results = run(*calls)
        self.assertEqual(results[10:13], [[1, 0], [0, 1], [4, 0]])
        self.assertEqual(order(*calls), [(0, 1), (0, 2), (0, 3), (0, 4), (0, 5)])

    def test_own_events_that_come_back(self):
        calls = [begin(2), create(0, 1), send(0, 1), deliver(0), send_one(1, 0, 0, 1), deliver(1), create(0, 2), deliver(1)]
        self.assertEqual(run(*calls, applied(0))[5:], [[0, 0], [2], [0, 0], [2, 0, 1, 1, 0, 2, 2]])

    def test_an_event_waits_for_an_event_of_another_replica(self):
        calls = [begin(3), create(0, 1), send(0, 1), deliver(0), create(1, 2), send_one(1, 2, 1, 1), send(0, 2)]
        results = run(*calls, deliver(1), applied(2), deliver(2), applied(2))
        self.assertEqual(results[7:], [[0, 1], [0], [2, 0], [2, 0, 1, 1, 1, 1, 2]])

    def test_an_event_does_not_wait_for_what_its_replica_got_later(self):
        calls = [begin(3), create(1, 2), create(0, 1), send(0, 1), deliver(0), send_one(1, 2, 1, 1), deliver(1), applied(2)]
        self.assertEqual(run(*calls)[6:], [[1, 0], [1, 1, 1, 2]])

    def test_an_event_does_not_wait_for_pending_events_of_its_replica(self):
        calls = [begin(3), create(0, 1), create(0, 2), send_one(0, 1, 0, 2), deliver(0), create(1, 3)]
        self.assertEqual(run(*calls, send(1, 2), deliver(1), applied(2))[6:], [[1, 1], [1, 0], [1, 1, 1, 3]])

    def test_concurrent_events_do_not_wait_for_each_other(self):
        calls = [begin(3), create(0, 1), create(1, 2), send(0, 2), send(1, 2), deliver(1), deliver(0)]
        self.assertEqual(order(*calls, applied(2)), [(1, 1), (0, 1)])

    def test_one_delivery_frees_pending_events_of_several_replicas(self):
        results = run(*CHAIN, deliver(5), deliver(6), deliver(7), applied(4), deliver(4))
        self.assertEqual(results[16:], [[0, 1], [0, 2], [0, 3], [0], [4, 0]])

    def test_after_each_event_the_first_pending_one_comes_next(self):
        # Once (2, 1) is applied, (0, 1) can be, and it stands ahead of (3, 1).
        expected = [(1, 1), (2, 1), (0, 1), (3, 1)]
        for first in ((5, 6, 7), (7, 6, 5), (6, 7, 5), (7, 5, 6)):
            calls = [deliver(number) for number in first]
            self.assertEqual(order(*CHAIN, *calls, deliver(4), applied(4)), expected)

    def test_one_delivery_frees_some_pending_events_and_leaves_others(self):
        calls = [deliver(5), deliver(7), deliver(4), applied(4), deliver(6), applied(4)]
        results = run(*CHAIN, *calls)
        self.assertEqual(results[16:19], [[0, 1], [0, 2], [2, 1]])
        self.assertEqual(results[19], [2, 1, 1, 10, 3, 1, 30])
        self.assertEqual(results[20], [2, 0])
        self.assertEqual(results[21], [4, 1, 1, 10, 3, 1, 30, 2, 1, 20, 0, 1, 40])

    def test_several_events_of_each_replica_go_by_replica_then_by_number(self):
        calls = [begin(4), create(3, 1), send(3, 0), send(3, 1), deliver(0), deliver(1)]
        calls = calls + [create(1, 2), create(0, 3), create(1, 4), create(0, 5)]
        calls = calls + [send_one(1, 2, 1, 2), send_one(1, 2, 1, 1), send_one(0, 2, 0, 2), send_one(0, 2, 0, 1)]
        calls = calls + [send(3, 2)] + [deliver(number) for number in (2, 3, 4, 5)]
        results = run(*calls, deliver(6), applied(2))
        self.assertEqual(results[15:20], [[0, 1], [0, 2], [0, 3], [0, 4], [5, 0]])
        self.assertEqual(results[20], [5, 3, 1, 1, 0, 1, 3, 0, 2, 5, 1, 1, 2, 1, 2, 4])

    def test_a_message_brings_what_it_held_when_it_was_created(self):
        calls = [begin(2), create(0, 1), send(0, 1), create(0, 2), create(0, 3), deliver(0), applied(1)]
        self.assertEqual(run(*calls)[5:], [[1, 0], [1, 0, 1, 1]])

    def test_a_message_still_holds_what_its_sender_has_learned_to_leave_out(self):
        calls = [begin(2), create(0, 1), send(0, 1), send(0, 1), deliver(0), send(1, 0), deliver(2), send(0, 1)]
        self.assertEqual(run(*calls, deliver(1), applied(1))[7:], [[3, 0], [0, 0], [1, 0, 1, 1]])

    def test_no_such_message(self):
        calls = [begin(2), deliver(0), send(0, 1), deliver(1), deliver(TOP), deliver(0)]
        self.assertEqual(run(*calls)[1:], [NOT_THERE, [0, 0], NOT_THERE, NOT_THERE, [0, 0]])

    def test_a_complete_message_makes_up_for_all_that_was_lost(self):
        calls = [
            begin(3), create(0, 1), send(0, 1), create(1, 2), send(1, 0), deliver(1), create(0, 3), send(0, 1),
            send_one(0, 1, 0, 2), deliver(3), send(0, 1), send(0, 2),
        ]
        # Messages 0 and 2 never arrive; 0 knows that 1 has (1, 1), so message 4 leaves it out.
        self.assertEqual(run(*calls)[8:12], [[3], [0, 1], [4, 2], [5, 3]])
        self.assertEqual(run(*calls, deliver(4), applied(1))[12:], [[2, 0], [3, 1, 1, 2, 0, 1, 1, 0, 2, 3]])
        self.assertEqual(run(*calls, deliver(5), applied(2))[12], [3, 0])

    def test_what_complete_messages_left_out_is_not_needed(self):
        calls = [begin(2), create(0, 1), send(0, 1), deliver(0), send(1, 0), deliver(1), create(0, 2), send(0, 1)]
        self.assertEqual(run(*calls, deliver(2))[7:], [[2, 1], [1, 0]])


if __name__ == "__main__":
    unittest.main()
