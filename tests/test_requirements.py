"""The requirements on drawn lists: the answers beside those of the model, and what the session holds."""

import unittest

from calls import compare, joined, run
from drawn import drawn_calls
from model import Model
from vectordelivery.session import Session

SEEDS = range(60)


def perform(session, call):
    operations = [
        session.begin, session.create, session.send, session.send_one, session.deliver, session.list_applied,
        session.list_pending, session.list_vector, session.list_known, session.list_stable, session.compare,
        session.list_message,
    ]
    return operations[call[0] - 1](*call[1:])


def state(session):
    """All that a session holds, as plain values that no later call changes."""
    def event(one):
        return (one.origin, one.number, one.value, tuple(one.dependencies))

    replicas = [
        (
            [event(one) for one in replica.applied], [event(one) for one in replica.pending],
            list(replica.vector), [list(vector) for vector in replica.known],
        )
        for replica in session.replicas
    ]
    messages = [
        (message.sender, message.receiver, tuple(message.vector), [event(one) for one in message.events])
        for message in session.messages
    ]
    return (replicas, messages, [event(one) for one in session.events])


def all_questions(model):
    places = range(model.count + 1)
    calls = [[operation, place] for operation in (6, 7, 8, 10) for place in places]
    calls += [[9, place, other] for place in places for other in places]
    return calls + [[12, number] for number in range(len(model.messages) + 1)]


class AgainstTheModel(unittest.TestCase):
    def test_all_answers_are_those_of_the_model(self):
        for seed in SEEDS:
            with self.subTest(seed=seed):
                model = Model()
                calls = drawn_calls(seed)
                self.assertEqual(len(calls), 300)
                self.assertEqual(run(*calls), [model.answer(call) for call in calls])

    def test_what_is_told_at_the_end_is_what_the_model_tells(self):
        for seed in SEEDS:
            with self.subTest(seed=seed):
                model = Model()
                calls = drawn_calls(seed, 200)
                expected = [model.answer(call) for call in calls]
                asked = all_questions(model)[:100]
                self.assertEqual(run(*calls, *asked), expected + [model.answer(call) for call in asked])

    def test_the_drawn_lists_meet_what_matters(self):
        deliveries = []
        refusals = set()
        told = {operation: set() for operation in range(6, 13)}
        for seed in SEEDS:
            calls = drawn_calls(seed)
            self.assertLessEqual(len(joined(calls)), 1500)
            for call, answer in zip(calls, run(*calls)):
                if answer[0] < 0:
                    refusals.add((call[0], answer[0]))
                elif call[0] == 5:
                    deliveries.append(tuple(answer))
                elif call[0] >= 6:
                    told[call[0]].add(tuple(answer))
        not_there = {(operation, -2) for operation in range(2, 13)}
        self.assertEqual(refusals, not_there | {(1, -1), (2, -1), (2, -5), (4, -3)})
        self.assertEqual(told[11], {(0,), (1,), (2,)})
        for operation in (6, 7, 8, 9, 10, 12):
            self.assertGreater(len(told[operation]), 30)
        # There are vectors of every length, and something stable among several replicas.
        for operation in (8, 9, 10):
            self.assertEqual({len(answer) for answer in told[operation]}, {2, 3, 4, 5, 6, 7})
        self.assertTrue(any(sum(answer) > 0 for answer in told[10] if len(answer) > 3))
        self.assertTrue(any(len(answer) > 10 for answer in told[7]))
        self.assertTrue(any(freed > 5 for freed, _ in deliveries))
        self.assertTrue(any(waiting > 5 for _, waiting in deliveries))

    def test_compare_is_what_the_model_tells_for_all_pairs(self):
        for seed in range(12):
            with self.subTest(seed=seed):
                model = Model()
                calls = drawn_calls(seed, 200)
                for call in calls:
                    model.answer(call)
                pairs = [(first, second) for first in sorted(model.values) for second in sorted(model.values)]
                asked = [compare(*first, *second) for first, second in pairs]
                for start in range(0, len(asked), 100):
                    some = asked[start:start + 100]
                    self.assertEqual(run(*calls, *some)[200:], [model.answer(call) for call in some])


class Requirements(unittest.TestCase):
    def after_each_call(self, look):
        """Show `look` every session after every one of its calls: the session, the call, its answer."""
        for seed in SEEDS:
            with self.subTest(seed=seed):
                session = Session()
                for call in drawn_calls(seed):
                    answer = perform(session, call)
                    look(session, call, answer)

    def assert_within(self, smaller, larger):
        self.assertTrue(all(low <= high for low, high in zip(smaller, larger, strict=True)))

    def test_1_events_come_after_what_they_depend_on(self):
        def look(session, call, answer):
            for replica in session.replicas:
                reached = [0] * len(session.replicas)
                for event in replica.applied:
                    self.assertEqual(event.number, reached[event.origin] + 1)
                    self.assert_within(event.dependencies, reached)
                    reached[event.origin] = event.number
                self.assertEqual(reached, replica.vector)

        self.after_each_call(look)

    def test_2_what_is_known_has_been_applied(self):
        def look(session, call, answer):
            for replica in session.replicas:
                for other, vector in enumerate(replica.known):
                    self.assert_within(vector, session.replicas[other].vector)

        self.after_each_call(look)

    def test_a_replica_knows_its_own_vector_of_itself(self):
        def look(session, call, answer):
            for place, replica in enumerate(session.replicas):
                self.assertEqual(replica.known[place], replica.vector)

        self.after_each_call(look)

    def test_3_a_complete_message_brings_all(self):
        for seed in SEEDS:
            with self.subTest(seed=seed):
                self.assert_complete_messages_bring_all(drawn_calls(seed))

    def assert_complete_messages_bring_all(self, calls):
        session = Session()
        at_creation = {}
        delivered = []
        for call in calls:
            answer = perform(session, call)
            if call[0] == 1 and answer == [0]:
                at_creation = {}
                delivered = []
            if call[0] == 3 and len(answer) == 2:
                at_creation[answer[0]] = (call[2], list(session.replicas[call[1]].vector))
            if call[0] == 5 and call[1] in at_creation:
                delivered.append(at_creation[call[1]])
            for receiver, vector in delivered:
                self.assert_within(vector, session.replicas[receiver].vector)

    def test_4_a_complete_message_holds_what_is_applied_and_not_known(self):
        def look(session, call, answer):
            if call[0] == 3 and len(answer) == 2:
                sender = session.replicas[call[1]]
                known = sender.known[call[2]]
                events = session.messages[answer[0]].events
                self.assertEqual(events, [event for event in sender.applied if event.number > known[event.origin]])
                self.assertEqual(len(events), answer[1])

        self.after_each_call(look)

    def test_5_what_is_pending_can_not_be_applied(self):
        def look(session, call, answer):
            for replica in session.replicas:
                places = [(event.origin, event.number) for event in replica.pending]
                self.assertEqual(places, sorted(set(places)))
                for event in replica.pending:
                    self.assertGreater(event.number, replica.vector[event.origin])
                    comes_next = event.number == replica.vector[event.origin] + 1
                    met = all(need <= have for need, have in zip(event.dependencies, replica.vector))
                    self.assertFalse(comes_next and met)

        self.after_each_call(look)

    def test_6_the_second_delivery_in_a_row_changes_nothing(self):
        def look(session, call, answer):
            if call[0] == 5 and len(answer) == 2:
                before = state(session)
                self.assertEqual(session.deliver(call[1]), [0, answer[1]])
                self.assertEqual(state(session), before)

        self.after_each_call(look)

    def test_what_is_only_asked_changes_nothing(self):
        for seed in SEEDS:
            with self.subTest(seed=seed):
                session = Session()
                for call in drawn_calls(seed):
                    before = state(session)
                    perform(session, call)
                    if call[0] >= 6:
                        self.assertEqual(state(session), before)

    def test_7_the_same_vector_means_the_same_events(self):
        def look(session, call, answer):
            found = {}
            for replica in session.replicas:
                events = {(event.origin, event.number, event.value) for event in replica.applied}
                self.assertEqual(found.setdefault(tuple(replica.vector), events), events)

        self.after_each_call(look)

    def test_8_an_error_changes_nothing(self):
        for seed in SEEDS:
            with self.subTest(seed=seed):
                session = Session()
                for call in drawn_calls(seed):
                    before = state(session)
                    answer = perform(session, call)
                    if answer[0] < 0:
                        self.assertEqual(len(answer), 1)
                        self.assertEqual(state(session), before)


if __name__ == "__main__":
    unittest.main()
