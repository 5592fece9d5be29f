"""What a server keeps, and the wants that it gathers during one call."""

TELL_TOO_MANY = 1
TELL_TOO_OFTEN = 2
TELL_ENDING = 3
TELL_TOO_LATE = 4

CLOSE_IDLE = 1
CLOSE_ENDING = 2
CLOSE_GRACE_OVER = 3


class Server:
    def __init__(self):
        self.rules = None
        self.now = 0
        self.inside = {}
        self.row = []
        self.ending = False
        self.grace_end = 0
        self.taken = 0
        self.answered = 0
        self.told_off = 0
        self.wants = []


def set_anew(server, rules, now):
    server.rules = rules
    server.now = now
    server.inside = {}
    server.row = []
    server.ending = False
    server.grace_end = 0
    server.taken = 0
    server.answered = 0
    server.told_off = 0


def want_start(server, who, request):
    server.wants.append([0, who, request.number, len(request.data)] + request.data)


def want_answer(server, who, number, data):
    server.answered = server.answered + 1
    server.wants.append([1, who, number, len(data)] + data)


def want_tell(server, who, number, why):
    server.told_off = server.told_off + 1
    server.wants.append([2, who, number, why])


def want_cancel(server, who, number):
    server.wants.append([3, who, number])


def want_close(server, who, why):
    server.wants.append([4, who, why])


def count_working(server):
    return sum([len(guest.working) for guest in server.inside.values()])


def count_waiting(server):
    return sum([len(guest.waiting) for guest in server.inside.values()])


def count_from(server, address):
    return len([guest for guest in server.inside.values() if guest.address == address])


def least_free_number(server):
    who = 0
    while who in server.inside:
        who = who + 1
    return who


def cancel_work(server, who):
    for request in server.inside[who].working:
        want_cancel(server, who, request.number)


def send_away(server, who):
    server.inside.pop(who)
    if who in server.row:
        server.row.remove(who)


def close_all_of(server, numbers, why):
    for who in numbers:
        want_close(server, who, why)
        send_away(server, who)
