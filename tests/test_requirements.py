"""The requirements, over many lists of calls that are drawn with fixed seeds."""

import random
import unittest

from calls import TOP, applied, begin, create, deliver, joined, run, send, send_one
from model import Model
from vectordelivery.session import Session

SEEDS = range(60)


def one_call(draw, model, share_of_send):
    """A call that mostly makes sense where the model stands, and at times does not."""
    replica, other = draw.randrange(model.count), draw.randrange(model.count)
    chance = draw.randrange(100)
    if chance < 20:
        return create(replica, draw.choice([0, 5, 77, 1000000000]))
    if chance < 20 + share_of_send:
        return send(replica, other)
    if chance < 60 and any(model.applied):
        sender = draw.choice([k for k in range(model.count) if model.applied[k]])
        return send_one(sender, other, *draw.choice(model.applied[sender]))
    if chance < 92 and model.messages:
        return deliver(draw.randrange(len(model.messages)))
    if chance < 97:
        return applied(replica)
    return wild_call(draw, model, replica, other)


def wild_call(draw, model, replica, other):
    wild = draw.choice([0, model.count, 7, len(model.messages), 200, 1000000001, TOP])
    calls = [
        create(replica, wild), create(wild, 1), send(replica, wild), send(wild, replica),
        send_one(replica, other, wild, 1), send_one(replica, other, other, wild), deliver(wild), applied(wild),
        begin(draw.choice([0, 7, TOP])),
    ]
    return draw.choice(calls)


def drawn_calls(seed):
    draw = random.Random(seed)
    model = Model()
    share_of_send = draw.choice([2, 10, 30])
    start_again = draw.choice([100, 150, 1000])
    calls = []
    while len(calls) < 280:
        if len(calls) % start_again == 0:
            calls.append(begin(draw.randrange(2, 7)))
        else:
            calls.append(one_call(draw, model, share_of_send))
        model.answer(calls[-1])
    return calls


def perform(session, call):
    operations = [
        session.begin, session.create, session.send, session.send_one, session.deliver, session.list_applied,
    ]
    return operations[call[0] - 1](*call[1:])


def state(session):
    """All that a session holds, as plain values that no later call changes."""
    def event(one):
        return (one.origin, one.number, one.value, tuple(one.dependencies))

    replicas = [
        (
            [event(one) for one in replica.applied], [event(one) for one in replica.pending],
            list(replica.vector), [list(vector) for vector in replica.known],
        )
        for replica in session.replicas
    ]
    messages = [
        (message.sender, message.receiver, tuple(message.vector), [event(one) for one in message.events])
        for message in session.messages
    ]
    return (replicas, messages, [event(one) for one in session.events])


class AgainstTheModel(unittest.TestCase):
    def test_all_answers_are_those_of_the_model(self):
        for seed in SEEDS:
            with self.subTest(seed=seed):
                model = Model()
                calls = drawn_calls(seed) + [applied(replica) for replica in range(6)]
                self.assertEqual(run(*calls), [model.answer(call) for call in calls])

    def test_the_drawn_lists_meet_what_matters(self):
        deliveries = []
        refusals = set()
        for seed in SEEDS:
            calls = drawn_calls(seed)
            self.assertLessEqual(len(joined(calls)), 1500)
            for call, answer in zip(calls, run(*calls)):
                if answer[0] < 0:
                    refusals.add((call[0], answer[0]))
                elif call[0] == 5:
                    deliveries.append(tuple(answer))
        self.assertTrue({(1, -1), (2, -1), (2, -2), (3, -2), (4, -2), (4, -3), (5, -2), (6, -2)} <= refusals)
        self.assertTrue(any(freed > 5 for freed, _ in deliveries))
        self.assertTrue(any(waiting > 5 for _, waiting in deliveries))


class Requirements(unittest.TestCase):
    def after_each_call(self, look):
        """Show `look` every session after every one of its calls: the session, the call, its answer."""
        for seed in SEEDS:
            with self.subTest(seed=seed):
                session = Session()
                for call in drawn_calls(seed):
                    answer = perform(session, call)
                    look(session, call, answer)

    def assert_within(self, smaller, larger):
        self.assertTrue(all(low <= high for low, high in zip(smaller, larger, strict=True)))

    def test_1_events_come_after_what_they_depend_on(self):
        def look(session, call, answer):
            for replica in session.replicas:
                reached = [0] * len(session.replicas)
                for event in replica.applied:
                    self.assertEqual(event.number, reached[event.origin] + 1)
                    self.assert_within(event.dependencies, reached)
                    reached[event.origin] = event.number
                self.assertEqual(reached, replica.vector)

        self.after_each_call(look)

    def test_2_what_is_known_has_been_applied(self):
        def look(session, call, answer):
            for replica in session.replicas:
                for other, vector in enumerate(replica.known):
                    self.assert_within(vector, session.replicas[other].vector)

        self.after_each_call(look)

    def test_a_replica_knows_its_own_vector_of_itself(self):
        def look(session, call, answer):
            for place, replica in enumerate(session.replicas):
                self.assertEqual(replica.known[place], replica.vector)

        self.after_each_call(look)

    def test_3_a_complete_message_brings_all(self):
        at_creation = {}
        delivered = []

        def look(session, call, answer):
            if call[0] == 1 and answer == [0]:
                at_creation.clear()
                delivered.clear()
            if call[0] == 3 and len(answer) == 2:
                at_creation[answer[0]] = (call[2], list(session.replicas[call[1]].vector))
            if call[0] == 5 and call[1] in at_creation:
                delivered.append(at_creation[call[1]])
            for receiver, vector in delivered:
                self.assert_within(vector, session.replicas[receiver].vector)

        self.after_each_call(look)

    def test_4_a_complete_message_holds_what_is_applied_and_not_known(self):
        def look(session, call, answer):
            if call[0] == 3 and len(answer) == 2:
                sender = session.replicas[call[1]]
                known = sender.known[call[2]]
                events = session.messages[answer[0]].events
                self.assertEqual(events, [event for event in sender.applied if event.number > known[event.origin]])
                self.assertEqual(len(events), answer[1])

        self.after_each_call(look)

    def test_5_what_is_pending_can_not_be_applied(self):
        def look(session, call, answer):
            for replica in session.replicas:
                places = [(event.origin, event.number) for event in replica.pending]
                self.assertEqual(places, sorted(set(places)))
                for event in replica.pending:
                    self.assertGreater(event.number, replica.vector[event.origin])
                    comes_next = event.number == replica.vector[event.origin] + 1
                    met = all(need <= have for need, have in zip(event.dependencies, replica.vector))
                    self.assertFalse(comes_next and met)

        self.after_each_call(look)

    def test_6_the_second_delivery_in_a_row_changes_nothing(self):
        def look(session, call, answer):
            if call[0] == 5 and len(answer) == 2:
                before = state(session)
                self.assertEqual(session.deliver(call[1]), [0, answer[1]])
                self.assertEqual(state(session), before)

        self.after_each_call(look)

    def test_7_the_same_vector_means_the_same_events(self):
        def look(session, call, answer):
            found = {}
            for replica in session.replicas:
                events = {(event.origin, event.number, event.value) for event in replica.applied}
                self.assertEqual(found.setdefault(tuple(replica.vector), events), events)

        self.after_each_call(look)

    def test_8_an_error_changes_nothing(self):
        for seed in SEEDS:
            with self.subTest(seed=seed):
                session = Session()
                for call in drawn_calls(seed):
                    before = state(session)
                    answer = perform(session, call)
                    if answer[0] < 0:
                        self.assertEqual(len(answer), 1)
                        self.assertEqual(state(session), before)


if __name__ == "__main__":
    unittest.main()
