"""The document's words once more, as plainly as can be: what the tests hold the program against.

Events are pairs (replica, number); what an event depends on is kept as the set of those pairs, not as a vector.
"""


class Model:
    def __init__(self, count=1):
        self.count = count
        self.values = {}
        self.before = {}
        self.applied = [[] for _ in range(count)]
        self.pending = [set() for _ in range(count)]
        self.known = {(a, b): set() for a in range(count) for b in range(count)}
        self.messages = []

    def answer(self, call):
        operations = [self.begin, self.create, self.send, self.send_one, self.deliver, self.tell_applied]
        return operations[call[0] - 1](*call[1:])

    def begin(self, count):
        if count not in (1, 2, 3, 4, 5, 6):
            return [-1]
        self.__init__(count)
        return [0]

    def create(self, replica, value):
        if replica >= self.count:
            return [-2]
        if value > 1000000000:
            return [-1]
        if len(self.values) == 60:
            return [-5]
        number = 1 + len([event for event in self.values if event[0] == replica])
        self.values[replica, number] = value
        self.before[replica, number] = set(self.applied[replica])
        self.applied[replica].append((replica, number))
        return [number]

    def send(self, sender, receiver):
        if sender >= self.count or receiver >= self.count or sender == receiver:
            return [-2]
        if len(self.messages) == 200:
            return [-5]
        events = [event for event in self.applied[sender] if event not in self.known[sender, receiver]]
        self.messages.append((sender, receiver, events, set(self.applied[sender])))
        return [len(self.messages) - 1, len(events)]

    def send_one(self, sender, receiver, replica, number):
        if sender >= self.count or receiver >= self.count or sender == receiver:
            return [-2]
        if (replica, number) not in self.applied[sender]:
            return [-3]
        if len(self.messages) == 200:
            return [-5]
        self.messages.append((sender, receiver, [(replica, number)], set(self.applied[sender])))
        return [len(self.messages) - 1]

    def deliver(self, number):
        if number >= len(self.messages):
            return [-2]
        sender, receiver, events, history = self.messages[number]
        done, waiting = self.applied[receiver], self.pending[receiver]
        start = len(done)
        waiting.update(events)
        while True:
            waiting.difference_update(done)
            ready = [event for event in sorted(waiting) if self.before[event] <= set(done)]
            if not ready:
                break
            done.append(ready[0])
        self.known[receiver, sender] |= history
        return [len(done) - start, len(waiting)]

    def tell_applied(self, replica):
        if replica >= self.count:
            return [-2]
        answer = [len(self.applied[replica])]
        for event in self.applied[replica]:
            answer += [event[0], event[1], self.values[event]]
        return answer
