"""A session: replicas that create events, and the messages that carry events between them."""

MOST_REPLICAS = 6
MOST_EVENTS = 60
MOST_MESSAGES = 200
HIGHEST_VALUE = 1000000000

OUT_OF_RANGE = -1
NOT_THERE = -2
NOT_APPLIED = -3
TOO_MANY = -5

UNRELATED = 0
FIRST_IS_EARLIER = 1
SECOND_IS_EARLIER = 2


class Event:
    """An event; its dependencies are the vector that its replica had directly before it."""

    def __init__(self, origin, number, value, dependencies):
        self.origin = origin
        self.number = number
        self.value = value
        self.dependencies = dependencies

    def depends_on(self, other):
        return other.number <= self.dependencies[other.origin]


def pending_place(event):
    """Where an event stands among pending ones: by its replica, then by its number."""
    return (event.origin, event.number)


def find_event(events, origin, number):
    """The event among these with this number of the replica `origin`, or None."""
    for event in events:
        if event.origin == origin and event.number == number:
            return event
    return None


def list_events(events):
    """How many events these are, then the replica, number and value of each."""
    answer = [len(events)]
    for event in events:
        answer.extend([event.origin, event.number, event.value])
    return answer


class Message:
    """A message; its vector is the one that the sender had when it created the message."""

    def __init__(self, sender, receiver, vector, events):
        self.sender = sender
        self.receiver = receiver
        self.vector = vector
        self.events = events


class Replica:
    """What one of several replicas has applied, what waits there, and what it knows of the others."""

    def __init__(self, place, count):
        self.place = place
        self.applied = []
        self.pending = []
        self.known = [[0] * count for other in range(count)]
        # The known vector of a replica for itself is its own vector, so one list is both.
        self.vector = self.known[place]

    def has_applied(self, event):
        return event.number <= self.vector[event.origin]

    def can_apply(self, event):
        if event.number != self.vector[event.origin] + 1:
            return False
        return all([needed <= reached for needed, reached in zip(event.dependencies, self.vector)])

    def apply(self, event):
        self.applied.append(event)
        self.vector[event.origin] = event.number

    def create(self, value):
        """Create the replica's next event, apply it and give it back."""
        event = Event(self.place, self.vector[self.place] + 1, value, list(self.vector))
        self.apply(event)
        return event

    def events_for(self, other):
        """What a complete message to `other` contains."""
        vector = self.known[other]
        return [event for event in self.applied if event.number > vector[event.origin]]

    def receive(self, events):
        """Let events arrive, apply what can be applied, and tell how many were applied."""
        count_before = len(self.applied)
        self.add_pending(events)
        event = self.first_applicable()
        while event is not None:
            self.apply(event)
            event = self.first_applicable()
        # An applied event can't be applied again, so dropping them all at the end is soon enough.
        self.pending = [waiting for waiting in self.pending if not self.has_applied(waiting)]
        return len(self.applied) - count_before

    def add_pending(self, events):
        for event in events:
            if event not in self.pending:
                self.pending.append(event)
        self.pending = sorted(self.pending, key=pending_place)

    def first_applicable(self):
        """The first pending event that the replica can apply, or None."""
        for event in self.pending:
            if self.can_apply(event):
                return event
        return None

    def learn(self, other, vector):
        """Raise the known vector for `other` to what a message of `other` tells."""
        self.known[other] = [max(old, told) for old, told in zip(self.known[other], vector)]

    def stable_vector(self):
        """For each replica, how many of its events all replicas are known to have applied."""
        return [self.least_known(origin) for origin in range(len(self.vector))]

    def least_known(self, origin):
        return min([vector[origin] for vector in self.known])


class Session:
    """The operations: each gives back its answer as a list, a refusal as one negative number."""

    def __init__(self):
        self.replicas = [Replica(0, 1)]
        self.events = []
        self.messages = []

    def begin(self, count):
        if count < 1 or count > MOST_REPLICAS:
            return [OUT_OF_RANGE]
        self.replicas = [Replica(place, count) for place in range(count)]
        self.events = []
        self.messages = []
        return [0]

    def create(self, replica, value):
        if not self.has_replica(replica):
            return [NOT_THERE]
        if value > HIGHEST_VALUE:
            return [OUT_OF_RANGE]
        if len(self.events) >= MOST_EVENTS:
            return [TOO_MANY]
        event = self.replicas[replica].create(value)
        self.events.append(event)
        return [event.number]

    def send(self, sender, receiver):
        if not self.can_connect(sender, receiver):
            return [NOT_THERE]
        if not self.has_room_for_message():
            return [TOO_MANY]
        events = self.replicas[sender].events_for(receiver)
        return [self.add_message(sender, receiver, events), len(events)]

    def send_one(self, sender, receiver, origin, number):
        if not self.can_connect(sender, receiver):
            return [NOT_THERE]
        event = find_event(self.replicas[sender].applied, origin, number)
        if event is None:
            return [NOT_APPLIED]
        if not self.has_room_for_message():
            return [TOO_MANY]
        return [self.add_message(sender, receiver, [event])]

    def deliver(self, number):
        if not self.has_message(number):
            return [NOT_THERE]
        message = self.messages[number]
        receiver = self.replicas[message.receiver]
        applied_count = receiver.receive(message.events)
        receiver.learn(message.sender, message.vector)
        return [applied_count, len(receiver.pending)]

    def list_applied(self, replica):
        if not self.has_replica(replica):
            return [NOT_THERE]
        return list_events(self.replicas[replica].applied)

    def list_pending(self, replica):
        if not self.has_replica(replica):
            return [NOT_THERE]
        return list_events(self.replicas[replica].pending)

    def list_vector(self, replica):
        if not self.has_replica(replica):
            return [NOT_THERE]
        return [0] + self.replicas[replica].vector

    def list_known(self, replica, other):
        if not self.has_replica(replica) or not self.has_replica(other):
            return [NOT_THERE]
        return [0] + self.replicas[replica].known[other]

    def list_stable(self, replica):
        if not self.has_replica(replica):
            return [NOT_THERE]
        return [0] + self.replicas[replica].stable_vector()

    def compare(self, first_origin, first_number, second_origin, second_number):
        first = find_event(self.events, first_origin, first_number)
        second = find_event(self.events, second_origin, second_number)
        if first is None or second is None:
            return [NOT_THERE]
        if second.depends_on(first):
            return [FIRST_IS_EARLIER]
        if first.depends_on(second):
            return [SECOND_IS_EARLIER]
        return [UNRELATED]

    def list_message(self, number):
        if not self.has_message(number):
            return [NOT_THERE]
        events = self.messages[number].events
        answer = [len(events)]
        for event in events:
            answer.extend([event.origin, event.number])
        return answer

    def has_replica(self, replica):
        return replica < len(self.replicas)

    def has_message(self, number):
        return number < len(self.messages)

    def can_connect(self, sender, receiver):
        return self.has_replica(sender) and self.has_replica(receiver) and sender != receiver

    def has_room_for_message(self):
        return len(self.messages) < MOST_MESSAGES

    def add_message(self, sender, receiver, events):
        """Keep a new message and give back its number."""
        # The sender goes on after this; the message keeps the vector of its creation.
        vector = list(self.replicas[sender].vector)
        self.messages.append(Message(sender, receiver, vector, events))
        return len(self.messages) - 1
