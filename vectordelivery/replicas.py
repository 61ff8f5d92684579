"""The way in: a list of calls, one behind another, and the list of their answers."""

from vectordelivery.session import Session

BEGIN = 1
CREATE = 2
SEND = 3
SEND_ONE = 4
DELIVER = 5
APPLIED = 6

ARGUMENT_COUNTS = {1: 1, 2: 2, 3: 2, 4: 4, 5: 1, 6: 1}


def answers(calls):
    """Carry out the calls on a new session; give, for each, how many numbers it answers, then these."""
    session = Session()
    results = []
    position = 0
    while position < len(calls):
        end = position + 1 + ARGUMENT_COUNTS[calls[position]]
        answer = perform(session, calls[position:end])
        results.append(len(answer))
        results.extend(answer)
        position = end
    return results


def perform(session, call):
    """Carry out one call: its number, then its arguments."""
    operation = call[0]
    if operation == BEGIN:
        return session.begin(call[1])
    if operation == CREATE:
        return session.create(call[1], call[2])
    if operation == SEND:
        return session.send(call[1], call[2])
    if operation == SEND_ONE:
        return session.send_one(call[1], call[2], call[3], call[4])
    if operation == DELIVER:
        return session.deliver(call[1])
    return session.list_applied(call[1])
