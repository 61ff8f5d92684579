"""The requirements as they can be seen from outside, with the answers alone."""

import unittest

from calls import (
    TOP, applied, begin, compare, create, deliver, groups, known, last, message, pending, run, send, send_one, stable,
    vector,
)
from drawn import drawn_calls

SEEDS = range(16)
LENGTH = 110


def ask(calls, questions):
    """The answers to the questions after these calls, in lists of at most 300 calls."""
    room = 300 - len(calls)
    answers = []
    for start in range(0, len(questions), room):
        some = questions[start:start + room]
        answers += run(*calls, *some)[len(calls):]
    return answers


def counts(calls):
    """How many replicas and messages there are after these calls, and which events."""
    replicas, messages, events = 1, 0, []
    for call, answer in zip(calls, run(*calls) if calls else []):
        if call[0] == 1 and answer == [0]:
            replicas, messages, events = call[1], 0, []
        elif call[0] == 2 and answer[0] > 0:
            events.append((call[1], answer[0]))
        elif call[0] in (3, 4) and answer[0] >= 0:
            messages += 1
    return replicas, messages, events


class View:
    """All that can be asked about the replicas and the messages after these calls."""

    def __init__(self, calls):
        self.count, self.messages, self.events = counts(calls)
        places = range(self.count)
        pairs = [(a, b) for a in places for b in places]
        single = [applied, pending, vector, stable]
        questions = [question(k) for question in single for k in places] + [known(a, b) for a, b in pairs]
        questions += [message(k) for k in range(self.messages)]
        # What lies just past the last one is asked, too: a view tells whether it came to be.
        questions += [question(self.count) for question in single] + [message(self.messages)]
        self.answers = ask(calls, questions)
        told = [self.answers[k * self.count:(k + 1) * self.count] for k in range(4)]
        self.applied = [[event[:2] for event in groups(answer, 3)] for answer in told[0]]
        self.pending = [[event[:2] for event in groups(answer, 3)] for answer in told[1]]
        self.vectors = [answer[1:] for answer in told[2]]
        self.stable = [answer[1:] for answer in told[3]]
        self.known = {pair: self.answers[4 * self.count + k][1:] for k, pair in enumerate(pairs)}


def relations(calls, events):
    """For each event, the events that it depends on."""
    pairs = [(first, second) for k, first in enumerate(events) for second in events[k + 1:]]
    needed = {event: set() for event in events}
    for (first, second), answer in zip(pairs, ask(calls, [compare(*first, *second) for first, second in pairs])):
        if answer == [1]:
            needed[second].add(first)
        if answer == [2]:
            needed[first].add(second)
    return needed


def steps(seed):
    """For each drawn call: the calls up to it, it, its answer, the views before and after it."""
    calls = drawn_calls(seed, LENGTH)
    before = View([])
    for k, answer in enumerate(run(*calls)):
        after = View(calls[:k + 1])
        yield calls[:k + 1], calls[k], answer, before, after
        before = after


class Requirements(unittest.TestCase):
    def for_each_seed(self, check):
        for seed in SEEDS:
            with self.subTest(seed=seed):
                check(seed)

    def assert_within(self, smaller, larger):
        self.assertTrue(all(low <= high for low, high in zip(smaller, larger, strict=True)), (smaller, larger))

    def test_2_vectors_known_stable_and_pending_fit_together(self):
        def check(seed):
            for _, _, _, _, after in steps(seed):
                for replica in range(after.count):
                    self.assert_replica_fits(after, replica)

        self.for_each_seed(check)

    def assert_replica_fits(self, view, replica):
        origins = [event[0] for event in view.applied[replica]]
        self.assertEqual(view.vectors[replica], [origins.count(k) for k in range(view.count)])
        self.assertEqual(view.known[replica, replica], view.vectors[replica])
        rows = [view.known[replica, other] for other in range(view.count)]
        self.assertEqual(view.stable[replica], [min(column) for column in zip(*rows)])
        for other in range(view.count):
            self.assert_within(rows[other], view.vectors[other])
            self.assert_within(view.stable[replica], view.vectors[other])
        self.assertEqual(view.pending[replica], sorted(set(view.pending[replica])))
        self.assertEqual(set(view.pending[replica]) & set(view.applied[replica]), set())

    def test_1_and_5_what_is_needed_comes_first_and_what_waits_lacks_something(self):
        waiting = []

        def check(seed):
            for length in (40, 75, LENGTH):
                calls = drawn_calls(seed, length)
                view = View(calls)
                needed = relations(calls, view.events)
                for done in view.applied:
                    for k, event in enumerate(done):
                        self.assertLessEqual(needed[event], set(done[:k]))
                for done, pending_events in zip(view.applied, view.pending):
                    for event in pending_events:
                        self.assertNotEqual(needed[event] - set(done), set())
                        waiting.append(event)

        self.for_each_seed(check)
        self.assertGreater(len(waiting), 10)

    def test_3_a_complete_message_brings_all(self):
        def check(seed):
            at_creation, delivered = {}, []
            for _, call, answer, before, after in steps(seed):
                if call[0] == 1 and answer == [0]:
                    at_creation, delivered = {}, []
                if call[0] == 3 and len(answer) == 2:
                    at_creation[answer[0]] = (call[2], before.applied[call[1]])
                if call[0] == 5 and call[1] in at_creation:
                    delivered.append(at_creation[call[1]])
                for receiver, events in delivered:
                    self.assertLessEqual(set(events), set(after.applied[receiver]))

        self.for_each_seed(check)

    def test_4_a_complete_message_holds_what_is_applied_and_not_known(self):
        found = []

        def check(seed):
            for calls, call, answer, before, _ in steps(seed):
                if call[0] == 3 and len(answer) == 2:
                    sender, receiver = call[1:]
                    what_is_known = before.known[sender, receiver]
                    expected = [event for event in before.applied[sender] if event[1] > what_is_known[event[0]]]
                    self.assertEqual(groups(last(*calls, message(answer[0])), 2), expected)
                    self.assertEqual(answer[1], len(expected))
                    found.append(0 < len(expected) < len(before.applied[sender]))

        self.for_each_seed(check)
        self.assertGreater(sum(found), 10)

    def test_6_the_second_delivery_in_a_row_changes_nothing(self):
        def check(seed):
            for calls, call, answer, _, after in steps(seed):
                if call[0] == 5 and len(answer) == 2:
                    self.assertEqual(last(*calls, call), [0, answer[1]])
                    self.assertEqual(View(calls + [call]).answers, after.answers)

        self.for_each_seed(check)

    def test_7_the_same_vector_means_the_same_events(self):
        def check(seed):
            for _, _, _, _, after in steps(seed):
                found = {}
                for told, events in zip(after.vectors, after.applied):
                    self.assertEqual(found.setdefault(tuple(told), set(events)), set(events))

        self.for_each_seed(check)

    def test_8_an_error_changes_nothing(self):
        found = set()

        def check(seed):
            for _, call, answer, before, after in steps(seed):
                if answer[0] < 0:
                    found.add(call[0])
                    self.assertEqual(len(answer), 1)
                    self.assertEqual(after.answers, before.answers)

        self.for_each_seed(check)
        self.assertGreater(len(found), 8)

    def test_what_is_only_asked_changes_nothing(self):
        def check(seed):
            for _, call, _, before, after in steps(seed):
                if call[0] >= 6:
                    self.assertEqual(after.answers, before.answers)

        self.for_each_seed(check)

    def test_a_delivery_changes_one_known_vector_and_sending_none(self):
        def check(seed):
            for _, call, _, before, after in steps(seed):
                others = {pair: told for pair, told in before.known.items() if pair[0] != pair[1]}
                changed = [pair for pair in others if call[0] != 1 and after.known[pair] != before.known[pair]]
                self.assertLessEqual(len(changed), 1 if call[0] == 5 else 0)
                for pair in changed:
                    self.assert_within(before.known[pair], after.known[pair])

        self.for_each_seed(check)

    def test_a_message_stays_as_it_is(self):
        def check(seed):
            for _, call, answer, before, after in steps(seed):
                if call[0] != 1 or answer != [0]:
                    start = 4 * before.count + before.count ** 2
                    end = start + before.messages
                    self.assertEqual(after.answers[start:end], before.answers[start:end])

        self.for_each_seed(check)


class EveryError(unittest.TestCase):
    """Requirement 8 for the errors of all twelve operations, one by one."""

    # Three replicas, something pending at 2, and messages that are delivered and not.
    CALLS = [
        begin(3), create(0, 5), create(0, 6), send(0, 1), send_one(0, 2, 0, 2), deliver(0), deliver(1), create(1, 7),
        send(1, 0), send_one(1, 0, 1, 1), deliver(2), send(1, 2),
    ]
    ERRORS = [
        (begin(0), -1), (begin(7), -1), (begin(TOP), -1), (create(3, 1), -2), (create(TOP, TOP), -2),
        (create(0, 1000000001), -1), (create(2, TOP), -1), (send(3, 0), -2), (send(0, 3), -2), (send(1, 1), -2),
        (send(TOP, TOP), -2), (send_one(3, 0, 0, 1), -2), (send_one(0, 3, 0, 1), -2), (send_one(0, 0, 0, 1), -2),
        (send_one(2, 0, 0, 2), -3), (send_one(0, 1, 0, 3), -3), (send_one(0, 1, 0, 0), -3), (send_one(0, 1, 3, 1), -3),
        (send_one(0, 1, TOP, TOP), -3), (deliver(5), -2), (deliver(TOP), -2), (applied(3), -2), (applied(TOP), -2),
        (pending(3), -2), (pending(TOP), -2), (vector(3), -2), (vector(TOP), -2), (known(3, 0), -2), (known(0, 3), -2),
        (known(3, 3), -2), (known(TOP, 0), -2), (stable(3), -2), (stable(TOP), -2), (compare(0, 1, 0, 3), -2),
        (compare(0, 0, 0, 1), -2), (compare(2, 1, 3, 1), -2), (compare(TOP, TOP, 0, 1), -2), (message(5), -2),
        (message(TOP), -2),
    ]

    def assert_changes_nothing(self, calls, call, error):
        self.assertEqual(last(*calls, call), [error])
        self.assertEqual(View(calls + [call]).answers, View(calls).answers)
        # What comes behind it is answered as if it had not been there.
        behind = [create(0, 8), send(0, 2), deliver(4), deliver(3), applied(2), pending(2), known(2, 1), stable(0)]
        self.assertEqual(run(*calls, call, *behind)[len(calls) + 1:], run(*calls, *behind)[len(calls):])

    def test_one_by_one(self):
        for call, error in self.ERRORS:
            with self.subTest(call=call):
                self.assert_changes_nothing(self.CALLS, call, error)
        self.assertEqual({call[0] for call, _ in self.ERRORS}, set(range(1, 13)))

    def test_too_many_events(self):
        calls = self.CALLS + [create(2, 1)] * 57
        for replica in range(3):
            self.assert_changes_nothing(calls, create(replica, 1), -5)

    def test_too_many_messages(self):
        calls = self.CALLS + [send_one(0, 1, 0, 1)] * 195
        self.assert_changes_nothing(calls, send(0, 1), -5)
        self.assert_changes_nothing(calls, send_one(0, 1, 0, 1), -5)

    def test_all_in_a_row(self):
        errors = [call for call, _ in self.ERRORS]
        self.assertEqual(run(*self.CALLS, *errors)[len(self.CALLS):], [[error] for _, error in self.ERRORS])
        self.assertEqual(View(self.CALLS + errors).answers, View(self.CALLS).answers)


if __name__ == "__main__":
    unittest.main()
