"""vector, known and stable: what a replica has applied, and what it knows of the others."""

import unittest

from calls import (
    NOT_THERE, TOP, applied, begin, create, deliver, groups, known, last, pending, run, send, send_one, stable, vector,
)

# Replica 0 has two events, 1 has one, 2 has none. Messages: 0 from 0 to 1 with (0, 1) alone applied,
# 1 from 0 to 1 with both, 2 from 1 to 2, 3 from 0 to 2 with event (0, 2) alone.
START = [begin(3), create(0, 5), send(0, 1), create(0, 6), send(0, 1), create(1, 7), send(1, 2), send_one(0, 2, 0, 2)]


def all_known(calls, count):
    """Every known vector after these calls, by the replica that knows and the one that is known."""
    pairs = [(a, b) for a in range(count) for b in range(count)]
    answers = run(*calls, *[known(a, b) for a, b in pairs])[len(calls):]
    return dict(zip(pairs, answers, strict=True))


class Vector(unittest.TestCase):
    def test_a_new_session(self):
        self.assertEqual(run(vector(0)), [[0, 0]])
        for count in range(1, 7):
            calls = [begin(count)] + [vector(k) for k in range(count)]
            self.assertEqual(run(*calls)[1:], [[0] + [0] * count] * count)

    def test_own_events(self):
        self.assertEqual(run(create(0, 5), vector(0), create(0, 6), vector(0))[1::2], [[0, 1], [0, 2]])
        calls = [begin(3), create(0, 5), create(2, 6), create(0, 7), vector(0), vector(1), vector(2)]
        self.assertEqual(run(*calls)[4:], [[0, 2, 0, 0], [0, 0, 0, 0], [0, 0, 0, 1]])

    def test_with_six_replicas(self):
        calls = [begin(6)] + [create(k, k) for k in range(6) for again in range(k)]
        for k in range(5):
            calls = calls + [send(k, 5), deliver(k)]
        calls = calls + [send(5, 0), deliver(5)]
        self.assertEqual(run(*calls, vector(0), vector(5), vector(3))[-3:], [
            [0, 0, 1, 2, 3, 4, 5], [0, 0, 1, 2, 3, 4, 5], [0, 0, 0, 0, 3, 0, 0],
        ])

    def test_events_of_others_once_they_are_applied(self):
        calls = START + [vector(1), deliver(0), vector(1), deliver(1), vector(1), vector(0)]
        self.assertEqual(run(*calls)[8:], [[0, 0, 1, 0], [1, 0], [0, 1, 1, 0], [1, 0], [0, 2, 1, 0], [0, 2, 0, 0]])

    def test_pending_events_do_not_count(self):
        calls = START + [deliver(3), vector(2), pending(2)]
        self.assertEqual(run(*calls)[8:], [[0, 1], [0, 0, 0, 0], [1, 0, 2, 6]])

    def test_it_counts_what_applied_lists(self):
        calls = list(START)
        for step in ([], [deliver(3)], [deliver(0)], [deliver(2)], [create(2, 8)], [send(0, 2), deliver(4)], [deliver(1)]):
            calls = calls + step
            for replica in range(3):
                origins = [event[0] for event in groups(last(*calls, applied(replica)), 3)]
                self.assertEqual(last(*calls, vector(replica)), [0] + [origins.count(k) for k in range(3)])

    def test_no_such_replica(self):
        self.assertEqual(run(vector(1), vector(TOP)), [NOT_THERE] * 2)
        self.assertEqual(run(begin(6), vector(6), vector(TOP), vector(5))[1:], [NOT_THERE, NOT_THERE, [0] + [0] * 6])

    def test_asking_changes_nothing(self):
        calls = START + [vector(1), vector(3), vector(1), deliver(1), vector(1)]
        self.assertEqual(run(*calls)[8:], [[0, 0, 1, 0], NOT_THERE, [0, 0, 1, 0], [2, 0], [0, 2, 1, 0]])


class Known(unittest.TestCase):
    def test_a_new_session(self):
        self.assertEqual(run(known(0, 0)), [[0, 0]])
        for count in range(1, 7):
            self.assertEqual(set(map(tuple, all_known([begin(count)], count).values())), {(0,) * (count + 1)})

    def test_for_itself_it_is_its_own_vector(self):
        calls = list(START)
        for step in ([], [deliver(3)], [deliver(2)], [deliver(0)], [deliver(1)], [create(2, 8)], [send(2, 0), deliver(4)]):
            calls = calls + step
            for replica in range(3):
                self.assertEqual(last(*calls, known(replica, replica)), last(*calls, vector(replica)))
        self.assertEqual(run(create(0, 5), known(0, 0), create(0, 6), known(0, 0))[1::2], [[0, 1], [0, 2]])

    def test_creating_and_sending_tell_nothing(self):
        table = all_known(START, 3)
        own = {(0, 0): [0, 2, 0, 0], (1, 1): [0, 0, 1, 0]}
        self.assertEqual(table, {pair: own.get(pair, [0, 0, 0, 0]) for pair in table})

    def test_a_delivery_tells_the_receiver_of_the_sender_alone(self):
        before = all_known(START, 3)
        after = all_known(START + [deliver(1)], 3)
        self.assertEqual(after.pop((1, 0)), [0, 2, 0, 0])
        # Besides, 1 has applied the events, and its known vector for itself is its vector.
        self.assertEqual(after.pop((1, 1)), [0, 2, 1, 0])
        self.assertEqual(after, {pair: before[pair] for pair in after})

    def test_a_message_tells_the_vector_of_its_creation(self):
        calls = START + [create(0, 8), deliver(0), known(1, 0), deliver(1), known(1, 0), vector(0)]
        self.assertEqual(run(*calls)[9:], [[1, 0], [0, 1, 0, 0], [1, 0], [0, 2, 0, 0], [0, 3, 0, 0]])

    def test_a_message_that_is_delivered_late(self):
        # 1 goes on after message 2, and 2 learns only what 1 had then.
        calls = START + [deliver(1), create(1, 8), create(1, 9), deliver(2), known(2, 1), known(2, 0), vector(1)]
        self.assertEqual(run(*calls)[11:], [[1, 0], [0, 0, 1, 0], [0, 0, 0, 0], [0, 2, 3, 0]])

    def test_an_older_message_after_a_newer_one_lowers_nothing(self):
        calls = START + [deliver(1), known(1, 0), deliver(0), known(1, 0), deliver(1), known(1, 0)]
        self.assertEqual(run(*calls)[9::2], [[0, 2, 0, 0]] * 3)

    def test_a_send_one_message_tells_as_much_as_a_complete_one(self):
        # Its event waits, and what its sender has applied is known all the same.
        calls = START + [deliver(3), known(2, 0), vector(2), send_one(0, 2, 0, 1), deliver(4), known(2, 0), vector(2)]
        self.assertEqual(run(*calls)[8:], [
            [0, 1], [0, 2, 0, 0], [0, 0, 0, 0], [4], [2, 0], [0, 2, 0, 0], [0, 2, 0, 0],
        ])

    def test_a_message_without_events_tells_its_vector_too(self):
        calls = START + [deliver(1), send(1, 0), deliver(4), send(0, 1), deliver(5), known(1, 0), send(0, 1), deliver(6)]
        # Message 6 holds nothing that 1 does not have, and tells that 0 has (1, 1).
        self.assertEqual(run(*calls, known(1, 0))[9:], [
            [4, 1], [1, 0], [5, 0], [0, 0], [0, 2, 1, 0], [6, 0], [0, 0], [0, 2, 1, 0],
        ])

    def test_what_others_tell_of_a_replica_is_not_known_of_it(self):
        calls = START + [deliver(1), send(1, 2), deliver(4), vector(2), known(2, 1), known(2, 0)]
        self.assertEqual(run(*calls)[10:], [[3, 0], [0, 2, 1, 0], [0, 2, 1, 0], [0, 0, 0, 0]])

    def test_the_maximum_of_corresponding_numbers(self):
        calls = [begin(3), create(1, 5), send(1, 0), deliver(0), send(0, 2), create(0, 6), create(2, 7), send(2, 0)]
        calls = calls + [deliver(2), send(0, 2), deliver(3), known(2, 0), deliver(1), known(2, 0)]
        self.assertEqual(run(*calls)[11::2], [[0, 1, 1, 1]] * 2)

    def test_with_six_replicas(self):
        calls = [begin(6)] + [create(k, k) for k in range(6)] + [send(k, 5) for k in range(5)]
        calls = calls + [deliver(k) for k in range(5)] + [send(5, 0), deliver(5)]
        table = all_known(calls, 6)
        for k in range(5):
            self.assertEqual(table[5, k], [0] + [1 if place == k else 0 for place in range(6)])
        self.assertEqual(table[5, 5], [0] + [1] * 6)
        self.assertEqual(table[0, 5], [0] + [1] * 6)
        self.assertEqual([table[k, 5] for k in range(1, 5)], [[0] + [0] * 6] * 4)

    def test_no_such_replica(self):
        self.assertEqual(run(known(0, 1), known(1, 0), known(1, 1), known(TOP, TOP)), [NOT_THERE] * 4)
        pairs = [(6, 0), (0, 6), (6, 6), (TOP, 0), (0, TOP), (TOP, TOP), (6, TOP)]
        self.assertEqual(run(begin(6), *[known(a, b) for a, b in pairs])[1:], [NOT_THERE] * 7)
        self.assertEqual(run(begin(6), known(5, 5), known(0, 5), known(5, 0))[1:], [[0] + [0] * 6] * 3)

    def test_asking_changes_nothing(self):
        questions = [known(1, 0), known(3, 0), known(0, 3), known(1, 1), known(1, 0)]
        calls = START + [deliver(0)]
        self.assertEqual(all_known(calls + questions, 3), all_known(calls, 3))


class Stable(unittest.TestCase):
    def test_a_new_session(self):
        self.assertEqual(run(stable(0)), [[0, 0]])
        for count in range(1, 7):
            calls = [begin(count)] + [stable(k) for k in range(count)]
            self.assertEqual(run(*calls)[1:], [[0] + [0] * count] * count)

    def test_with_one_replica_it_is_the_vector(self):
        for start in ([], [begin(1)]):
            calls = start + [create(0, 5), stable(0), create(0, 6), create(0, 7), stable(0), vector(0)]
            results = run(*calls)[len(start):]
            self.assertEqual([results[k] for k in (1, 4, 5)], [[0, 1], [0, 3], [0, 3]])

    def test_what_one_replica_is_not_known_to_have_is_not_stable(self):
        calls = [begin(3), create(0, 5), send(0, 1), send(0, 2), deliver(0), deliver(1), stable(0)]
        self.assertEqual(last(*calls), [0, 0, 0, 0])
        self.assertEqual(last(*calls, send(1, 0), deliver(2), stable(0)), [0, 0, 0, 0])
        self.assertEqual(last(*calls, send(1, 0), deliver(2), send(2, 0), deliver(3), stable(0)), [0, 1, 0, 0])

    def test_each_replica_tells_what_it_knows_itself(self):
        calls = [begin(2), create(0, 5), send(0, 1), deliver(0), send(1, 0), stable(0), stable(1), deliver(1), stable(0)]
        # 1 knows that both have the event as soon as it has it; 0 only when 1 has told it.
        self.assertEqual([run(*calls)[k] for k in (5, 6, 8)], [[0, 0, 0], [0, 1, 0], [0, 1, 0]])

    def test_its_own_vector_is_taken_in(self):
        # 1 knows that 0 has two events, and has applied one of them itself.
        calls = [begin(2), create(0, 5), create(0, 6), send_one(0, 1, 0, 1), deliver(0), known(1, 0), vector(1), stable(1)]
        self.assertEqual(run(*calls)[5:], [[0, 2, 0], [0, 1, 0], [0, 1, 0]])
        # Without any of them applied, nothing is stable.
        others = [begin(2), create(0, 5), create(0, 6), send_one(0, 1, 0, 2), deliver(0), known(1, 0), stable(1)]
        self.assertEqual(run(*others)[5:], [[0, 2, 0], [0, 0, 0]])

    def test_the_minimum_is_taken_number_by_number(self):
        calls = [begin(3)] + [create(k, 5) for k in (0, 0, 0, 1, 1, 2)]
        # 1 gets two events of 0; 2 gets one of 0 and both of 1; each tells 0.
        calls = calls + [send_one(0, 1, 0, 1), send_one(0, 1, 0, 2), deliver(0), deliver(1)]
        calls = calls + [send_one(0, 2, 0, 1), send_one(1, 2, 1, 1), send_one(1, 2, 1, 2)]
        calls = calls + [deliver(2), deliver(3), deliver(4), send(2, 1), deliver(5), send(1, 0), send(2, 0)]
        calls = calls + [deliver(6), deliver(7)]
        results = run(*calls, known(0, 0), known(0, 1), known(0, 2), stable(0))
        self.assertEqual(results[-4:], [[0, 3, 2, 1], [0, 2, 2, 1], [0, 1, 2, 1], [0, 1, 2, 1]])

    def test_all_replicas_have_applied_what_it_returns(self):
        calls = START + [deliver(3), deliver(0), deliver(2), send(2, 0), deliver(4), deliver(1), send(1, 0), send(0, 2)]
        calls = calls + [deliver(5), deliver(6), send(2, 0), send(2, 1), deliver(7), deliver(8), send(0, 1), deliver(9)]
        seen = set()
        for length in range(1, len(calls) + 1):
            results = run(*calls[:length], *[vector(k) for k in range(3)], *[stable(k) for k in range(3)])
            vectors, stables = results[-6:-3], results[-3:]
            for told in stables:
                self.assertTrue(all(told[k] <= min(one[k] for one in vectors) for k in range(4)))
                seen.add(tuple(told))
        self.assertIn((0, 2, 1, 0), seen)

    def test_with_six_replicas(self):
        calls = [begin(6), create(3, 5)] + [send(3, k) for k in (0, 1, 2, 4, 5)] + [deliver(k) for k in range(5)]
        self.assertEqual(last(*calls, stable(3)), [0] + [0] * 6)
        calls = calls + [send(k, 3) for k in (0, 1, 2, 4, 5)] + [deliver(k) for k in range(5, 9)]
        self.assertEqual(run(*calls, stable(3), deliver(9), stable(3))[-3::2], [[0] + [0] * 6, [0, 0, 0, 0, 1, 0, 0]])
        self.assertEqual(last(*calls, deliver(9), stable(2)), [0] + [0] * 6)

    def test_no_such_replica(self):
        self.assertEqual(run(stable(1), stable(TOP)), [NOT_THERE] * 2)
        self.assertEqual(run(begin(6), stable(6), stable(TOP), stable(5))[1:], [NOT_THERE, NOT_THERE, [0] + [0] * 6])

    def test_asking_changes_nothing(self):
        calls = START + [deliver(0), send(1, 0), deliver(4)]
        questions = [stable(0), stable(1), stable(3), stable(0)]
        self.assertEqual(all_known(calls + questions, 3), all_known(calls, 3))
        self.assertEqual(run(*calls, *questions)[-4:], [[0] * 4, [0] * 4, NOT_THERE, [0] * 4])


if __name__ == "__main__":
    unittest.main()
