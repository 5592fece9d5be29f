"""The way in: one list of calls is answered by one list of numbers."""

from fairdoor.acts import answer, arrive, ask, begin, drop, hear, leave, stop, tick, weigh
from fairdoor.rules import Rules
from fairdoor.server import Server
from fairdoor.views import tell_counts, tell_due, tell_guest

BEGIN = 1
ARRIVES = 2
ASKS = 3
ANSWERS = 4
DROPS = 5
LEAVES = 6
WEIGHT = 8
TICK = 9
STOP = 10
DUE = 11
TOLD = 12
LOOK = 13

# How many whole numbers stand behind a call's own number, ahead of its bytes.
NUMBERS_OF = {1: 9, 2: 2, 3: 4, 4: 3, 5: 3, 6: 2, 7: 2, 8: 3, 9: 1, 10: 2, 11: 0, 12: 0, 13: 1}


def answers(calls):
    server = Server()
    given = []
    place = 0
    while place < len(calls):
        call = calls[place]
        data_place = place + 1 + NUMBERS_OF[call]
        numbers = calls[place + 1:data_place]
        data = []
        place = data_place
        if call in (ASKS, ANSWERS):
            place = data_place + 1 + calls[data_place]
            data = calls[data_place + 1:place]
        told = answer_call(server, call, numbers, data)
        given.append(len(told))
        given.extend(told)
    return given


def answer_call(server, call, numbers, data):
    server.wants = []
    told = tell(server, call, numbers, data)
    told.append(len(server.wants))
    for want in server.wants:
        told.extend(want)
    return told


def tell(server, call, numbers, data):
    if call == DUE:
        return tell_due(server)
    if call == TOLD:
        return tell_counts(server)
    if call == LOOK:
        return tell_guest(server, numbers[0])
    if call in (WEIGHT, TICK, STOP):
        return [steer(server, call, numbers)]
    return [serve(server, call, numbers, data)]


def serve(server, call, numbers, data):
    if call == BEGIN:
        return begin(server, read_rules(numbers), numbers[8])
    if call == ARRIVES:
        return arrive(server, numbers[0], numbers[1])
    if call == ASKS:
        return ask(server, numbers[0], numbers[1], numbers[2], numbers[3], data)
    if call == ANSWERS:
        return answer(server, numbers[0], numbers[1], numbers[2], data)
    if call == DROPS:
        return drop(server, numbers[0], numbers[1], numbers[2])
    if call == LEAVES:
        return leave(server, numbers[0], numbers[1])
    return hear(server, numbers[0], numbers[1])


def steer(server, call, numbers):
    if call == WEIGHT:
        return weigh(server, numbers[0], numbers[1], numbers[2])
    if call == TICK:
        return tick(server, numbers[0])
    return stop(server, numbers[0], numbers[1])


def read_rules(numbers):
    return Rules(
        numbers[0], numbers[1], numbers[2], numbers[3], numbers[4], numbers[5], numbers[6], numbers[7]
    )
