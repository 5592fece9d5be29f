"""How the tests write calls and read answers."""

from fairdoor.desk import answers

TOP = 2 ** 64 - 1
LAST_TIME = 2 ** 62

TOO_MANY, TOO_OFTEN, ENDING, TOO_LATE = 1, 2, 3, 4
IDLE, NOTHING_LEFT, GRACE_OVER = 1, 2, 3


def begin(most=64, each=64, work=1, wait=64, idle=0, limit=0, rate=0, burst=1, now=0):
    return [1, most, each, work, wait, idle, limit, rate, burst, now]


def arrives(address=0, now=0):
    return [2, address, now]


def asks(who, request, cost=1, now=0, data=()):
    return [3, who, request, cost, now, len(data), *data]


def answers_call(who, request, now=0, data=()):
    return [4, who, request, now, len(data), *data]


def drops(who, request, now=0):
    return [5, who, request, now]


def leaves(who, now=0):
    return [6, who, now]


def heard(who, now=0):
    return [7, who, now]


def start(who, request, data=()):
    return ("start", who, request, list(data))


def answer(who, request, data=()):
    return ("answer", who, request, list(data))


def tell(who, request, why):
    return ("tell", who, request, why)


def cancel(who, request):
    return ("cancel", who, request)


def close(who, why):
    return ("close", who, why)


def read_want(numbers, place):
    """One want and the place behind it."""
    kind = numbers[place]
    who = numbers[place + 1]
    if kind in (0, 1):
        size = numbers[place + 3]
        data = numbers[place + 4:place + 4 + size]
        if len(data) != size:
            raise AssertionError("a want's bytes are cut off")
        make = start if kind == 0 else answer
        return make(who, numbers[place + 2], data), place + 4 + size
    if kind == 2:
        return tell(who, numbers[place + 2], numbers[place + 3]), place + 4
    if kind == 3:
        return cancel(who, numbers[place + 2]), place + 3
    if kind == 4:
        return close(who, numbers[place + 2]), place + 3
    raise AssertionError("no want has the number " + str(kind))


def read_answer(numbers):
    """The number answered, and the wants, of a call that tells nothing between these."""
    wants = []
    place = 2
    while place < len(numbers):
        want, place = read_want(numbers, place)
        wants.append(want)
    if len(wants) != numbers[1] or place != len(numbers):
        raise AssertionError("the wants are not as many as told")
    return numbers[0], wants


def read_all(given):
    told = []
    place = 0
    while place < len(given):
        size = given[place]
        part = given[place + 1:place + 1 + size]
        if len(part) != size:
            raise AssertionError("an answer is cut off")
        told.append(read_answer(part))
        place += 1 + size
    return told


def run(*calls):
    """For each call the number answered and its wants."""
    flat = []
    for call in calls:
        flat.extend(call)
    told = read_all(answers(flat))
    if len(told) != len(calls):
        raise AssertionError("not every call is answered once")
    return told


def last(*calls):
    return run(*calls)[-1]


def numbers(*calls):
    return [number for number, wants in run(*calls)]
