"""send and send_one: what a message holds, how messages are numbered, and what is refused."""

import unittest

from calls import (
    NOT_APPLIED, NOT_THERE, TOO_MANY, TOP, applied, begin, create, deliver, last, order, run, send, send_one,
)
from vectordelivery.session import Session


class Send(unittest.TestCase):
    def test_nothing_to_send(self):
        calls = [begin(2), send(0, 1), deliver(0), applied(1)]
        self.assertEqual(run(*calls)[1:], [[0, 0], [0, 0], [0]])

    def test_all_that_the_sender_has_applied(self):
        calls = [begin(2), create(0, 1), create(0, 2), create(1, 3), send(0, 1), send(1, 0)]
        self.assertEqual(run(*calls)[4:], [[0, 2], [1, 1]])

    def test_events_of_others_are_sent_on(self):
        calls = [begin(3), create(0, 1), send(0, 1), deliver(0), create(1, 2), send(1, 2), deliver(1), applied(2)]
        self.assertEqual(run(*calls)[5:], [[1, 2], [2, 0], [2, 0, 1, 1, 1, 1, 2]])

    def test_pending_events_are_not_sent(self):
        calls = [begin(3), create(0, 1), create(0, 2), send_one(0, 1, 0, 2), deliver(0), create(1, 3), send(1, 2)]
        self.assertEqual(last(*calls), [1, 1])

    def test_sending_alone_tells_the_sender_nothing(self):
        calls = [begin(2), create(0, 1), send(0, 1), send(0, 1), deliver(0), send(0, 1)]
        self.assertEqual([run(*calls)[k] for k in (2, 3, 5)], [[0, 1], [1, 1], [2, 1]])

    def test_known_events_are_left_out_after_a_delivery_in_the_other_direction(self):
        calls = [begin(2), create(0, 1), send(0, 1), deliver(0), create(1, 2), send(1, 0), deliver(1), send(0, 1)]
        self.assertEqual(run(*calls)[5:], [[1, 1], [1, 0], [2, 0]])
        self.assertEqual(last(*calls, create(0, 3), send(0, 1)), [3, 1])

    def test_a_known_vector_speaks_of_one_replica_alone(self):
        calls = [begin(3), create(0, 1), send(0, 1), deliver(0), send(1, 0), send(1, 2)]
        self.assertEqual(run(*calls)[4:], [[1, 0], [2, 1]])

    def test_what_the_receiver_learns_the_sender_does_not(self):
        calls = [begin(3), create(1, 1), create(0, 2), send(0, 1), deliver(0), send(0, 1), send(2, 1), send(2, 0)]
        self.assertEqual(run(*calls)[5:], [[1, 1], [2, 0], [3, 0]])

    def test_a_message_tells_the_vector_of_its_creation(self):
        calls = [
            begin(3), create(0, 1), send(0, 1), create(0, 2), send(0, 2), deliver(1), send(2, 1), deliver(2), deliver(0),
        ]
        # 1 has both events; from message 0 it knows only that 0 has the first.
        self.assertEqual(last(*calls, send(1, 0)), [3, 1])

    def test_a_message_tells_more_than_its_event(self):
        calls = [begin(2), create(0, 1), create(0, 2), send_one(0, 1, 0, 2), send_one(0, 1, 0, 1), deliver(0), deliver(1)]
        self.assertEqual(last(*calls), [2, 0])
        # Message 0 tells that 0 has applied both, whichever arrives first.
        self.assertEqual(last(*calls, send(1, 0)), [2, 0])
        others = [begin(3), create(0, 1), create(0, 2), send_one(0, 1, 0, 1), send(0, 2), deliver(1), send(2, 1)]
        self.assertEqual(last(*others, deliver(0), deliver(2), send(1, 0)), [3, 0])

    def test_an_older_message_takes_nothing_back(self):
        calls = [begin(2), create(0, 1), send(0, 1), create(0, 2), send(0, 1), deliver(1), deliver(0), send(1, 0)]
        self.assertEqual(last(*calls), [2, 0])

    def test_the_maximum_is_taken_number_by_number(self):
        calls = [
            begin(3), create(0, 1), send(0, 1), create(2, 2), send(2, 0), send(2, 1), deliver(1), send(0, 1),
            create(1, 3), deliver(2), deliver(0), send(1, 0),
        ]
        # From message 0, 1 knows that 0 has (0, 1), nothing of (2, 1); (1, 1) is its own.
        self.assertEqual(last(*calls), [4, 2])
        self.assertEqual(last(*calls, deliver(3), send(1, 0)), [5, 1])

    def test_events_keep_the_order_in_which_the_sender_applied_them(self):
        session = Session()
        session.begin(4)
        session.create(2, 5)
        session.create(1, 6)
        session.send(2, 1)
        session.deliver(0)
        session.create(1, 7)
        session.create(0, 8)
        session.send(0, 1)
        session.deliver(1)
        self.assertEqual(session.send(1, 3), [2, 4])
        self.assertEqual(self.pairs(session.messages[2]), [(1, 1), (2, 1), (1, 2), (0, 1)])
        self.assertEqual(session.send(1, 2), [3, 3])
        self.assertEqual(self.pairs(session.messages[3]), [(1, 1), (1, 2), (0, 1)])

    def test_the_order_in_a_message_is_not_the_order_of_applying(self):
        calls = [begin(3), create(1, 5), create(0, 6), send(0, 1), deliver(0), send(1, 2), deliver(1)]
        self.assertEqual(order(*calls, applied(1)), [(1, 1), (0, 1)])
        # The receiver applies by the order of its pending events, not by that of the message.
        self.assertEqual(order(*calls, applied(2)), [(0, 1), (1, 1)])

    def pairs(self, message):
        return [(event.origin, event.number) for event in message.events]

    def test_no_such_replica_or_the_same(self):
        calls = [send(3, 0), send(0, 3), send(3, 3), send(1, 1), send(TOP, 0), send(0, TOP), send(2, 0)]
        self.assertEqual(run(begin(3), *calls)[1:], [NOT_THERE] * 6 + [[0, 0]])

    def test_message_200_and_the_one_after_it(self):
        calls = [begin(2), create(0, 1)] + [send(0, 1), send_one(0, 1, 0, 1)] * 100
        results = run(*calls, send(0, 1), send(1, 0), send_one(0, 1, 0, 1), deliver(200), deliver(199), deliver(198))
        self.assertEqual(results[2:6], [[0, 1], [1], [2, 1], [3]])
        self.assertEqual(results[200:202], [[198, 1], [199]])
        self.assertEqual(results[202:], [TOO_MANY] * 3 + [NOT_THERE, [1, 0], [0, 0]])

    def test_the_order_of_errors_when_there_are_200_messages(self):
        calls = [begin(2), create(0, 1)] + [send(0, 1)] * 200
        behind = [
            send(0, 0), send(0, 2), send(2, 0), send(0, 1), send_one(0, 0, 0, 1), send_one(0, 2, 0, 9),
            send_one(0, 1, 0, 2), send_one(1, 0, 0, 1), send_one(0, 1, 9, 1), send_one(0, 1, 0, 1),
        ]
        self.assertEqual(
            run(*calls, *behind)[202:],
            [NOT_THERE] * 3 + [TOO_MANY] + [NOT_THERE] * 2 + [NOT_APPLIED] * 3 + [TOO_MANY],
        )

    def test_refused_messages_do_not_count(self):
        calls = [begin(2), create(0, 1), send(0, 0), send(0, 2), send_one(0, 1, 0, 2), send_one(1, 1, 0, 1)]
        self.assertEqual(run(*calls, deliver(0), send(0, 1), send_one(0, 1, 0, 1))[6:], [NOT_THERE, [0, 1], [1]])
        full = calls + [send(0, 1)] * 200
        self.assertEqual(run(*full, send(0, 1))[-2:], [[199, 1], TOO_MANY])


class SendOne(unittest.TestCase):
    def test_one_event_of_several(self):
        calls = [begin(2), create(0, 1), create(0, 2), send_one(0, 1, 0, 1), deliver(0), applied(1)]
        self.assertEqual(run(*calls)[3:], [[0], [1, 0], [1, 0, 1, 1]])

    def test_an_event_of_another_replica(self):
        calls = [begin(3), create(0, 1), send(0, 1), deliver(0), send_one(1, 2, 0, 1), deliver(1), applied(2)]
        self.assertEqual(run(*calls)[4:], [[1], [1, 0], [1, 0, 1, 1]])

    def test_an_event_that_the_receiver_certainly_has(self):
        calls = [begin(2), create(0, 1), send(0, 1), deliver(0), send_one(1, 0, 0, 1), deliver(1), applied(0)]
        self.assertEqual(run(*calls)[4:], [[1], [0, 0], [1, 0, 1, 1]])

    def test_events_that_are_not_there(self):
        calls = [begin(2), create(0, 1), create(0, 2)]
        wrong = [(0, 0), (0, 3), (0, TOP), (1, 0), (1, 1), (2, 1), (TOP, 1), (TOP, TOP)]
        results = run(*calls, *[send_one(0, 1, replica, number) for replica, number in wrong])
        self.assertEqual(results[3:], [NOT_APPLIED] * len(wrong))
        self.assertEqual(run(*calls, send_one(0, 1, 0, 1), send_one(0, 1, 0, 2))[3:], [[0], [1]])

    def test_an_event_that_is_there_but_not_applied_by_the_sender(self):
        calls = [begin(3), create(0, 1), send_one(1, 2, 0, 1), send(0, 1), send_one(1, 2, 0, 1)]
        self.assertEqual(run(*calls)[2:], [NOT_APPLIED, [0, 1], NOT_APPLIED])
        self.assertEqual(last(*calls, deliver(0), send_one(1, 2, 0, 1)), [1])

    def test_a_pending_event_is_not_applied(self):
        calls = [begin(3), create(0, 1), create(0, 2), send_one(0, 1, 0, 2), deliver(0), send_one(1, 2, 0, 2)]
        self.assertEqual(last(*calls), NOT_APPLIED)

    def test_no_such_replica_or_the_same(self):
        pairs = [(0, 0), (0, 2), (2, 0), (2, 2), (TOP, 0), (0, TOP)]
        calls = [begin(2), create(0, 1)] + [send_one(a, b, 0, 1) for a, b in pairs]
        self.assertEqual(run(*calls)[2:], [NOT_THERE] * len(pairs))

    def test_no_such_replica_goes_ahead_of_an_event_that_is_not_applied(self):
        pairs = [(0, 0), (0, 2), (2, 0), (TOP, TOP)]
        calls = [begin(2), create(0, 1)] + [send_one(a, b, 0, 2) for a, b in pairs]
        self.assertEqual(run(*calls)[2:], [NOT_THERE] * len(pairs))


if __name__ == "__main__":
    unittest.main()
