"""What the tests share: the calls by their names, and the answers cut into one list a call."""

from vectordelivery.replicas import answers

TOP = 2 ** 64 - 1
OUT_OF_RANGE = [-1]
NOT_THERE = [-2]
NOT_APPLIED = [-3]
TOO_MANY = [-5]


def begin(replicas):
    return [1, replicas]


def create(replica, value):
    return [2, replica, value]


def send(sender, receiver):
    return [3, sender, receiver]


def send_one(sender, receiver, replica, number):
    return [4, sender, receiver, replica, number]


def deliver(message):
    return [5, message]


def applied(replica):
    return [6, replica]


def joined(calls):
    return [number for call in calls for number in call]


def cut(numbers):
    """The answers of a list, one list for each call."""
    results = []
    position = 0
    while position < len(numbers):
        end = position + 1 + numbers[position]
        if end > len(numbers):
            raise AssertionError("an answer is shorter than its count tells")
        results.append(numbers[position + 1:end])
        position = end
    return results


def run(*calls):
    """The answers to these calls, handed in as one list."""
    results = cut(answers(joined(calls)))
    if len(results) != len(calls):
        raise AssertionError("there is not one answer for each call")
    return results


def last(*calls):
    """The answer to the last one of these calls."""
    return run(*calls)[-1]


def order(*calls):
    """The events that the last call, an `applied`, tells, as pairs of replica and number."""
    answer = last(*calls)
    if len(answer) != 1 + 3 * answer[0]:
        raise AssertionError("applied does not tell three numbers for each event")
    return [(answer[k], answer[k + 1]) for k in range(1, len(answer), 3)]
