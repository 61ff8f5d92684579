"""The document's words once more, as plainly as can be: what the tests hold the program against.

Events are pairs (replica, number); what an event depends on is kept as the set of those pairs, not as a vector.
"""


class Model:
    def __init__(self, count=1):
        self.count = count
        self.values = {}
        self.before = {}
        self.applied = [[] for _ in range(count)]
        self.pending = [set() for _ in range(count)]
        self.known = {(a, b): set() for a in range(count) for b in range(count)}
        self.messages = []

    def answer(self, call):
        operations = [
            self.begin, self.create, self.send, self.send_one, self.deliver, self.tell_applied, self.tell_pending,
            self.tell_vector, self.tell_known, self.tell_stable, self.compare, self.tell_message,
        ]
        return operations[call[0] - 1](*call[1:])

    def begin(self, count):
        if count not in (1, 2, 3, 4, 5, 6):
            return [-1]
        self.__init__(count)
        return [0]

    def create(self, replica, value):
        if replica >= self.count:
            return [-2]
        if value > 1000000000:
            return [-1]
        if len(self.values) == 60:
            return [-5]
        number = 1 + len([event for event in self.values if event[0] == replica])
        self.values[replica, number] = value
        self.before[replica, number] = set(self.applied[replica])
        self.applied[replica].append((replica, number))
        return [number]

    def send(self, sender, receiver):
        if sender >= self.count or receiver >= self.count or sender == receiver:
            return [-2]
        if len(self.messages) == 200:
            return [-5]
        events = [event for event in self.applied[sender] if event not in self.known[sender, receiver]]
        self.messages.append((sender, receiver, events, set(self.applied[sender])))
        return [len(self.messages) - 1, len(events)]

    def send_one(self, sender, receiver, replica, number):
        if sender >= self.count or receiver >= self.count or sender == receiver:
            return [-2]
        if (replica, number) not in self.applied[sender]:
            return [-3]
        if len(self.messages) == 200:
            return [-5]
        self.messages.append((sender, receiver, [(replica, number)], set(self.applied[sender])))
        return [len(self.messages) - 1]

    def deliver(self, number):
        if number >= len(self.messages):
            return [-2]
        sender, receiver, events, history = self.messages[number]
        done, waiting = self.applied[receiver], self.pending[receiver]
        start = len(done)
        waiting.update(events)
        while True:
            waiting.difference_update(done)
            ready = [event for event in sorted(waiting) if self.before[event] <= set(done)]
            if not ready:
                break
            done.append(ready[0])
        self.known[receiver, sender] |= history
        return [len(done) - start, len(waiting)]

    def tell_applied(self, replica):
        if replica >= self.count:
            return [-2]
        return self.with_values(self.applied[replica])

    def tell_pending(self, replica):
        if replica >= self.count:
            return [-2]
        return self.with_values(sorted(self.pending[replica]))

    def with_values(self, events):
        answer = [len(events)]
        for event in events:
            answer += [event[0], event[1], self.values[event]]
        return answer

    def tell_vector(self, replica):
        if replica >= self.count:
            return [-2]
        return self.counted(self.applied[replica])

    def tell_known(self, replica, other):
        if replica >= self.count or other >= self.count:
            return [-2]
        return self.counted(self.known_to(replica, other))

    def tell_stable(self, replica):
        if replica >= self.count:
            return [-2]
        common = set(self.values)
        for other in range(self.count):
            common &= self.known_to(replica, other)
        return self.counted(common)

    def known_to(self, replica, other):
        return set(self.applied[replica]) if replica == other else self.known[replica, other]

    def counted(self, events):
        return [0] + [len([event for event in events if event[0] == replica]) for replica in range(self.count)]

    def compare(self, replica1, number1, replica2, number2):
        first, second = (replica1, number1), (replica2, number2)
        if first not in self.values or second not in self.values:
            return [-2]
        if first in self.before[second]:
            return [1]
        return [2] if second in self.before[first] else [0]

    def tell_message(self, number):
        if number >= len(self.messages):
            return [-2]
        events = self.messages[number][2]
        return [len(events)] + [part for event in events for part in event]
