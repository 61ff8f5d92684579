"""The way in: a list of calls, one behind another, and the list of their answers."""

from vectordelivery.session import Session

BEGIN = 1
CREATE = 2
SEND = 3
SEND_ONE = 4
DELIVER = 5
APPLIED = 6
PENDING = 7
VECTOR = 8
KNOWN = 9
STABLE = 10
COMPARE = 11

ARGUMENT_COUNTS = {1: 1, 2: 2, 3: 2, 4: 4, 5: 1, 6: 1, 7: 1, 8: 1, 9: 2, 10: 1, 11: 4, 12: 1}


def answers(calls):
    """Carry out the calls on a new session; give, for each, how many numbers it answers, then these."""
    session = Session()
    results = []
    position = 0
    while position < len(calls):
        end = position + 1 + ARGUMENT_COUNTS[calls[position]]
        answer = perform(session, calls[position:end])
        results.append(len(answer))
        results.extend(answer)
        position = end
    return results


def perform(session, call):
    """Carry out one call: its number, then its arguments."""
    if call[0] <= DELIVER:
        return change(session, call)
    return ask(session, call)


def change(session, call):
    """Carry out a call that can change the session."""
    operation = call[0]
    if operation == BEGIN:
        return session.begin(call[1])
    if operation == CREATE:
        return session.create(call[1], call[2])
    if operation == SEND:
        return session.send(call[1], call[2])
    if operation == SEND_ONE:
        return session.send_one(call[1], call[2], call[3], call[4])
    return session.deliver(call[1])


def ask(session, call):
    """Carry out a call that only reads the session."""
    operation = call[0]
    if operation == APPLIED:
        return session.list_applied(call[1])
    if operation == PENDING:
        return session.list_pending(call[1])
    if operation == VECTOR:
        return session.list_vector(call[1])
    if operation == KNOWN:
        return session.list_known(call[1], call[2])
    if operation == STABLE:
        return session.list_stable(call[1])
    if operation == COMPARE:
        return session.compare(call[1], call[2], call[3], call[4])
    return session.list_message(call[1])
