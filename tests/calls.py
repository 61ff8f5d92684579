"""What the tests share: the calls by their names, and the answers cut into one list a call."""

from vectordelivery.replicas import answers

TOP = 2 ** 64 - 1
OUT_OF_RANGE = [-1]
NOT_THERE = [-2]
NOT_APPLIED = [-3]
TOO_MANY = [-5]


def begin(replicas):
    return [1, replicas]


def create(replica, value):
    return [2, replica, value]


def send(sender, receiver):
    return [3, sender, receiver]


def send_one(sender, receiver, replica, number):
    return [4, sender, receiver, replica, number]


def deliver(message):
    return [5, message]


def applied(replica):
    return [6, replica]


def pending(replica):
    return [7, replica]


def vector(replica):
    return [8, replica]


def known(replica, other):
    return [9, replica, other]


def stable(replica):
    return [10, replica]


def compare(replica1, number1, replica2, number2):
    return [11, replica1, number1, replica2, number2]


def message(number):
    return [12, number]


def joined(calls):
    return [number for call in calls for number in call]


def cut(numbers):
    """The answers of a list, one list for each call."""
    results = []
    position = 0
    while position < len(numbers):
        end = position + 1 + numbers[position]
        if end > len(numbers):
            raise AssertionError("an answer is shorter than its count tells")
        results.append(numbers[position + 1:end])
        position = end
    return results


def run(*calls):
    """The answers to these calls, handed in as one list."""
    results = cut(answers(joined(calls)))
    if len(results) != len(calls):
        raise AssertionError("there is not one answer for each call")
    return results


def last(*calls):
    """The answer to the last one of these calls."""
    return run(*calls)[-1]


def order(*calls):
    """The events that the last call, an `applied` or `pending`, tells, as pairs of replica and number."""
    return [event[:2] for event in groups(last(*calls), 3)]


def groups(answer, size):
    """What an answer tells behind its count: so many groups of this many numbers."""
    if len(answer) != 1 + size * answer[0]:
        raise AssertionError(f"the answer does not tell {size} numbers for each event that it counts")
    return [tuple(answer[k:k + size]) for k in range(1, len(answer), size)]
