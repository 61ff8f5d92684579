"""Lists of calls that are drawn with fixed seeds, of all twelve operations."""

import random

from calls import (
    TOP, applied, begin, compare, create, deliver, known, message, pending, send, send_one, stable, vector,
)
from model import Model


def drawn_calls(seed, length=300):
    draw = random.Random(seed)
    model = Model()
    share_of_send = draw.choice([2, 8, 25])
    start_again = draw.choice([90, 150, 1000])
    # Some lists go on for a while with the one replica that is there at the start.
    first_begin = draw.choice([0, 0, 0, 12])
    calls = []
    while len(calls) < length:
        if len(calls) >= first_begin and (len(calls) - first_begin) % start_again == 0:
            calls.append(begin(draw.choice([1, 2, 3, 3, 4, 5, 6])))
        else:
            calls.append(one_call(draw, model, share_of_send))
        model.answer(calls[-1])
    return calls


def one_call(draw, model, share_of_send):
    """A call that mostly makes sense where the model stands, and at times does not."""
    replica = draw.randrange(model.count)
    other = another(draw, model, replica)
    chance = draw.randrange(100)
    if chance < 18:
        return create(replica, draw.choice([0, 5, 77, 1000000000]))
    if chance < 18 + share_of_send:
        return send(replica, other)
    if chance < 52 and any(model.applied):
        sender = draw.choice([k for k in range(model.count) if model.applied[k]])
        return send_one(sender, another(draw, model, sender), *draw.choice(model.applied[sender]))
    if chance < 76 and model.messages:
        return deliver(draw.randrange(len(model.messages)))
    if chance < 95:
        return draw.choice(questions(draw, model, replica, other))
    return draw.choice(wild_calls(draw, model, replica, other))


def another(draw, model, replica):
    """Mostly another replica than this one, if there is one."""
    others = [other for other in range(model.count) if other != replica]
    return draw.choice(others or [0]) if draw.randrange(12) else replica


def questions(draw, model, replica, other):
    events = list(model.values) or [(0, 1)]
    waiting = [place for place in range(model.count) if model.pending[place]] or [replica]
    return [
        applied(replica), pending(draw.choice(waiting)), vector(replica), known(replica, other), known(replica, replica),
        stable(replica), compare(*draw.choice(events), *draw.choice(events)),
        compare(*draw.choice(events), *draw.choice(events)), message(draw.randrange(len(model.messages) + 1)),
    ]


def wild_calls(draw, model, replica, other):
    wild = draw.choice([0, model.count, 7, len(model.messages), 200, 1000000001, TOP])
    return [
        begin(draw.choice([0, 7, TOP])), create(replica, wild), create(wild, 1), send(replica, wild),
        send(wild, replica), send_one(replica, other, wild, 1), send_one(replica, other, other, wild), deliver(wild),
        applied(wild), pending(wild), vector(wild), known(wild, replica), known(replica, wild), known(wild, wild),
        stable(wild), compare(replica, wild, other, 1), compare(replica, 1, wild, 1), compare(wild, wild, other, 1),
        message(wild),
    ]
