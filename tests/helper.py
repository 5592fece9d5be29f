"""How the tests write calls and read answers."""

from fairdoor.desk import answers

TOP = 2 ** 64 - 1
LAST_TIME = 2 ** 62

TOO_MANY, TOO_OFTEN, ENDING, TOO_LATE = 1, 2, 3, 4
IDLE, NOTHING_LEFT, GRACE_OVER = 1, 2, 3


def begin(most=64, each=64, work=1, wait=64, idle=0, limit=0, rate=0, burst=1, now=0):
    return [1, most, each, work, wait, idle, limit, rate, burst, now]


def arrives(address=0, now=0):
    return [2, address, now]


def asks(who, request, cost=1, now=0, data=()):
    return [3, who, request, cost, now, len(data), *data]


def answers_call(who, request, now=0, data=()):
    return [4, who, request, now, len(data), *data]


def drops(who, request, now=0):
    return [5, who, request, now]


def leaves(who, now=0):
    return [6, who, now]


def heard(who, now=0):
    return [7, who, now]


def weight(who, value, now=0):
    return [8, who, value, now]


def tick(now=0):
    return [9, now]


def stop(grace=0, now=0):
    return [10, grace, now]


def due():
    return [11]


def told_call():
    return [12]


def look(who):
    return [13, who]


def looked(address=0, weight=1, credit=0, heard_at=0, working=(), waiting=()):
    """What look answers of one in."""
    counts = [len(waiting), len(working)]
    return [0, address, weight, credit] + counts + [heard_at] + list(working) + list(waiting), []


def counted(inside=0, working=0, waiting=0, taken=0, answered=0, told_off=0, ending=0, now=0):
    """What told answers."""
    return [0, inside, working, waiting, taken, answered, told_off, ending, now], []


def start(who, request, data=()):
    return ("start", who, request, list(data))


def answer(who, request, data=()):
    return ("answer", who, request, list(data))


def tell(who, request, why):
    return ("tell", who, request, why)


def cancel(who, request):
    return ("cancel", who, request)


def close(who, why):
    return ("close", who, why)


def read_want(numbers, place):
    """One want and the place behind it."""
    kind = numbers[place]
    who = numbers[place + 1]
    if kind in (0, 1):
        size = numbers[place + 3]
        data = numbers[place + 4:place + 4 + size]
        if len(data) != size:
            raise AssertionError("a want's bytes are cut off")
        make = start if kind == 0 else answer
        return make(who, numbers[place + 2], data), place + 4 + size
    if kind == 2:
        return tell(who, numbers[place + 2], numbers[place + 3]), place + 4
    if kind == 3:
        return cancel(who, numbers[place + 2]), place + 3
    if kind == 4:
        return close(who, numbers[place + 2]), place + 3
    raise AssertionError("no want has the number " + str(kind))


def size_told(kind, numbers):
    """How many numbers stand ahead of the count of wants."""
    if numbers[0] < 0:
        return 1
    if kind == 11:
        return 1 + numbers[0]
    if kind == 12:
        return 9
    if kind == 13:
        return 7 + numbers[4] + numbers[5]
    return 1


def read_answer(kind, numbers):
    """What a call answered and its wants; of due, told, look all numbers ahead of the wants, as a list."""
    size = size_told(kind, numbers)
    wants = []
    place = size + 1
    while place < len(numbers):
        want, place = read_want(numbers, place)
        wants.append(want)
    if len(wants) != numbers[size] or place != len(numbers):
        raise AssertionError("the wants are not as many as told")
    return (numbers[:size] if kind in (11, 12, 13) else numbers[0]), wants


def read_all(calls, given):
    read = []
    place = 0
    for call in calls:
        size = given[place]
        part = given[place + 1:place + 1 + size]
        if len(part) != size:
            raise AssertionError("an answer is cut off")
        read.append(read_answer(call[0], part))
        place += 1 + size
    if place != len(given):
        raise AssertionError("more is answered than was asked")
    return read


def run(*calls):
    """For each call the number answered and its wants."""
    flat = []
    for call in calls:
        flat.extend(call)
    return read_all(calls, answers(flat))


def last(*calls):
    return run(*calls)[-1]


def numbers(*calls):
    return [number for number, wants in run(*calls)]
