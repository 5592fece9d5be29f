"""The calls that only tell of a server: each answers a list of numbers, and no time goes on."""

from fairdoor.guest import is_quiet
from fairdoor.refusals import NOBODY
from fairdoor.server import count_waiting, count_working
from fairdoor.turns import is_grace_over


def tell_due(server):
    times = due_times(server)
    if len(times) == 0:
        return [0]
    return [1, min(times)]


def due_times(server):
    # Without rules nobody is in, so that none are looked at.
    times = []
    for guest in server.inside.values():
        times.extend(late_times(guest, server.rules.limit))
        times.extend(idle_times(guest, server.rules.idle))
    if server.ending and not is_grace_over(server):
        times.append(server.grace_end)
    return times


def late_times(guest, limit):
    if limit == 0:
        return []
    return [request.since + limit for request in guest.working + guest.waiting]


def idle_times(guest, idle):
    if idle == 0 or not is_quiet(guest):
        return []
    return [guest.heard_at + idle]


def tell_counts(server):
    here = [len(server.inside), count_working(server), count_waiting(server)]
    ever = [server.taken, server.answered, server.told_off]
    ending = 1 if server.ending else 0
    return [0] + here + ever + [ending, server.now]


def tell_guest(server, who):
    if who not in server.inside:
        return [NOBODY]
    guest = server.inside[who]
    told = [0, guest.address, guest.weight, guest.credit, len(guest.waiting), len(guest.working), guest.heard_at]
    return told + request_numbers(guest.working) + request_numbers(guest.waiting)


def request_numbers(requests):
    return [request.number for request in requests]
