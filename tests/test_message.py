"""message: which events a message contains, and in which order."""

import unittest

from calls import (
    NOT_APPLIED, NOT_THERE, TOP, applied, begin, create, deliver, known, last, message, pending, run, send, send_one,
)

# Replica 1 applies (1, 1), then (2, 1), then (1, 2), then (0, 1); messages 0 and 1 brought the others' events.
MIXED = [
    begin(4), create(2, 5), create(1, 6), send(2, 1), deliver(0), create(1, 7), create(0, 8), send(0, 1), deliver(1),
]


class Message(unittest.TestCase):
    def test_no_events(self):
        self.assertEqual(run(begin(2), send(0, 1), message(0))[1:], [[0, 0], [0]])
        calls = [begin(2), create(0, 5), send(0, 1), deliver(0), send(1, 0), message(1)]
        self.assertEqual(run(*calls)[4:], [[1, 0], [0]])

    def test_a_complete_message(self):
        calls = [begin(2), create(0, 5), create(0, 6), create(1, 7), send(0, 1), send(1, 0), message(0), message(1)]
        self.assertEqual(run(*calls)[4:], [[0, 2], [1, 1], [2, 0, 1, 0, 2], [1, 1, 1]])

    def test_a_complete_message_without_what_is_known(self):
        calls = [begin(2), create(0, 5), send(0, 1), deliver(0), create(1, 6), send(1, 0), deliver(1), create(0, 7)]
        self.assertEqual(run(*calls, send(0, 1), message(2))[8:], [[2, 1], [1, 0, 2]])
        # 0 does not know that 2 has anything.
        self.assertEqual(run(begin(3), *calls[1:], send(0, 2), message(2))[8:], [[2, 3], [3, 0, 1, 1, 1, 0, 2]])

    def test_events_stand_in_the_order_in_which_the_sender_applied_them(self):
        calls = MIXED + [send(1, 3), message(2)]
        self.assertEqual(run(*calls)[9:], [[2, 4], [4, 1, 1, 2, 1, 1, 2, 0, 1]])
        # What the receiver is known to have is left out; the others stay in their order.
        self.assertEqual(run(*MIXED, send(1, 2), message(2))[9:], [[2, 3], [3, 1, 1, 1, 2, 0, 1]])
        self.assertEqual(run(*MIXED, send(1, 0), message(2))[9:], [[2, 3], [3, 1, 1, 2, 1, 1, 2]])

    def test_each_sender_has_its_own_order(self):
        calls = [begin(3), create(1, 5), create(0, 6), send(0, 1), deliver(0), send(1, 2), deliver(1), send(2, 0)]
        self.assertEqual(run(*calls, message(1), message(2))[8:], [[2, 1, 1, 0, 1], [2, 0, 1, 1, 1]])

    def test_pending_events_are_not_contained(self):
        calls = [begin(3), create(0, 5), create(0, 6), send_one(0, 1, 0, 2), deliver(0), create(1, 7), send(1, 2)]
        self.assertEqual(last(*calls, message(1)), [1, 1, 1])

    def test_a_send_one_message(self):
        calls = [begin(3), create(0, 5), create(0, 6), send_one(0, 1, 0, 2), send_one(0, 2, 0, 1), message(0), message(1)]
        self.assertEqual(run(*calls)[3:], [[0], [1], [1, 0, 2], [1, 0, 1]])
        self.assertEqual(run(*MIXED, send_one(1, 3, 2, 1), message(2))[9:], [[2], [1, 2, 1]])

    def test_a_send_one_message_with_an_event_that_the_receiver_is_known_to_have(self):
        self.assertEqual(last(*MIXED, send_one(1, 2, 2, 1), message(2)), [1, 2, 1])

    def test_the_same_after_the_sender_has_gone_on(self):
        calls = [begin(2), create(0, 5), send(0, 1), send_one(0, 1, 0, 1), create(0, 6), send(0, 1), create(0, 7)]
        self.assertEqual(run(*calls, message(0), message(1), message(2))[7:], [[1, 0, 1], [1, 0, 1], [2, 0, 1, 0, 2]])
        later = MIXED + [send(1, 3), create(2, 9), send(2, 1), deliver(3), create(1, 10), message(2)]
        self.assertEqual(last(*later), [4, 1, 1, 2, 1, 1, 2, 0, 1])

    def test_the_same_after_it_was_delivered(self):
        calls = MIXED + [send(1, 3), send_one(1, 3, 1, 2), deliver(3), message(3), deliver(2), message(2), message(3)]
        self.assertEqual(run(*calls)[11:], [
            [0, 1], [1, 1, 2], [4, 0], [4, 1, 1, 2, 1, 1, 2, 0, 1], [1, 1, 2],
        ])
        again = calls + [deliver(2), deliver(3), message(2), message(3)]
        self.assertEqual(run(*again)[-2:], [[4, 1, 1, 2, 1, 1, 2, 0, 1], [1, 1, 2]])

    def test_the_same_after_its_events_have_become_known(self):
        calls = [begin(2), create(0, 5), create(0, 6), send(0, 1), send(0, 1), deliver(0), send(1, 0), deliver(2)]
        results = run(*calls, known(0, 1), message(0), message(1), send(0, 1), message(3))
        self.assertEqual(results[8:], [[0, 2, 0], [2, 0, 1, 0, 2], [2, 0, 1, 0, 2], [3, 0], [0]])

    def test_with_six_replicas(self):
        calls = [begin(6)] + [create(k, k) for k in range(6)] + [send(k, 0) for k in range(5, 0, -1)]
        calls = calls + [deliver(k) for k in range(5)] + [send(0, 5), message(5), message(0)]
        self.assertEqual(run(*calls)[-2:], [[5, 0, 1, 4, 1, 3, 1, 2, 1, 1, 1], [1, 5, 1]])

    def test_the_last_of_200_messages(self):
        calls = [begin(2), create(0, 5)] + [send(0, 1)] * 199 + [create(0, 6), send(0, 1), send(0, 1)]
        self.assertEqual(run(*calls, message(198), message(199), message(200))[204:], [
            [1, 0, 1], [2, 0, 1, 0, 2], NOT_THERE,
        ])

    def test_no_such_message(self):
        self.assertEqual(run(message(0), message(1), message(TOP)), [NOT_THERE] * 3)
        calls = [begin(2), message(0), send(0, 1), message(0), message(1), message(TOP)]
        self.assertEqual(run(*calls)[1:], [NOT_THERE, [0, 0], [0], NOT_THERE, NOT_THERE])

    def test_a_refused_message_is_not_there(self):
        calls = [begin(2), create(0, 5), send(0, 0), send_one(0, 1, 0, 2), message(0), send(0, 1), message(0)]
        self.assertEqual(run(*calls)[2:], [NOT_THERE, NOT_APPLIED, NOT_THERE, [0, 1], [1, 0, 1]])

    def test_asking_changes_nothing(self):
        calls = MIXED + [send(1, 3)]
        questions = [message(2), message(3), message(2), message(TOP)]
        ends = [applied(3), pending(3), known(3, 1), message(2), deliver(2), applied(3), send(1, 3)]
        self.assertEqual(run(*calls, *questions, *ends)[-7:], run(*calls, *ends)[-7:])


if __name__ == "__main__":
    unittest.main()
