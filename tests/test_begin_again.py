"""begin in the middle of a list: all twelve calls answer as in a new session of that many replicas."""

import unittest

from calls import (
    NOT_APPLIED, NOT_THERE, TOP, applied, begin, compare, create, deliver, known, last, message, pending, run, send,
    send_one, stable, vector,
)

# Events that are applied, that wait and that are known; messages that were delivered and that were not.
BUSY = [
    begin(6), create(0, 5), create(0, 6), send(0, 1), send_one(0, 2, 0, 2), deliver(0), deliver(1), create(1, 7),
    send(1, 0), deliver(2), create(5, 8), send(5, 0), deliver(3), send(0, 5), deliver(4), send(0, 3), create(3, 9),
]


def all_calls(count):
    """Each of the twelve calls, those that only ask first, for each replica and for the one past the last."""
    places = range(count + 1)
    asked = [call(k) for call in (applied, pending, vector, stable) for k in places]
    asked += [known(a, b) for a in places for b in places] + [message(0), message(4), compare(0, 1, 0, 2)]
    asked += [compare(0, 1, 0, 1), compare(1, 1, 0, 1), deliver(0), deliver(4)]
    # With one replica, the message is refused; else it is the first one.
    asked += [send_one(0, 1, 0, 1), send(0, 1), deliver(0), message(0), message(1), create(0, 3), create(0, 4)]
    asked += [send_one(0, 1, 0, 2), deliver(1), pending(1), known(1, 0), vector(1), send(0, 1), message(2), deliver(2)]
    return asked + [applied(1), stable(1), compare(0, 1, 0, 2), known(0, 1), begin(0)]


class BeginAgain(unittest.TestCase):
    def test_as_in_a_new_session(self):
        for count in range(1, 7):
            behind = [begin(count)] + all_calls(count)
            self.assertEqual(run(*BUSY, *behind)[len(BUSY):], run(*behind))
            self.assertEqual(run(*behind, *behind)[len(behind):], run(*behind))
        self.assertEqual({call[0] for call in all_calls(3)}, set(range(1, 13)))

    def test_one_replica_as_at_the_start(self):
        self.assertEqual(run(*BUSY, begin(1), *all_calls(1))[len(BUSY) + 1:], run(*all_calls(1)))

    def test_the_answers_themselves(self):
        behind = [
            begin(2), applied(0), pending(1), vector(0), known(0, 1), known(1, 1), stable(1), compare(0, 1, 0, 1),
            message(0), deliver(0), applied(2), vector(2), known(2, 0), known(0, 2), stable(2), pending(2),
            send_one(0, 1, 0, 1), create(0, 9), send(0, 1), message(0), deliver(0), known(1, 0), applied(1),
        ]
        self.assertEqual(run(*BUSY, *behind)[len(BUSY):], [
            [0], [0], [0], [0, 0, 0], [0, 0, 0], [0, 0, 0], [0, 0, 0], NOT_THERE,
            NOT_THERE, NOT_THERE, NOT_THERE, NOT_THERE, NOT_THERE, NOT_THERE, NOT_THERE, NOT_THERE,
            NOT_APPLIED, [1], [0, 1], [1, 0, 1], [1, 0], [0, 1, 0], [1, 0, 1, 9],
        ])

    def test_more_replicas_than_before(self):
        behind = [begin(2), begin(6), vector(5), known(5, 4), stable(0), applied(5), pending(5), create(5, 1), vector(5)]
        self.assertEqual(run(*BUSY, *behind)[len(BUSY) + 2:], [
            [0] * 7, [0] * 7, [0] * 7, [0], [0], [1], [0, 0, 0, 0, 0, 0, 1],
        ])

    def test_a_refused_begin_keeps_all(self):
        questions = [vector(0), known(0, 5), stable(0), pending(2), applied(3), compare(0, 1, 1, 1), message(4)]
        expected = run(*BUSY, *questions)[len(BUSY):]
        for wrong in (0, 7, TOP):
            self.assertEqual(run(*BUSY, begin(wrong), *questions)[len(BUSY) + 1:], expected)
        self.assertEqual(last(*BUSY, begin(7), pending(2)), [1, 0, 2, 6])


if __name__ == "__main__":
    unittest.main()
