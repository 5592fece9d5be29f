"""Whose request is started next, and what happens when time goes on."""

from fairdoor.guest import is_quiet, late_requests, timely_requests
from fairdoor.server import CLOSE_ENDING, CLOSE_GRACE_OVER, CLOSE_IDLE, TELL_TOO_LATE
from fairdoor.server import cancel_work, close_all_of, count_working, want_cancel, want_start, want_tell

CREDIT_FOR_WEIGHT = 1000


def go_on(server, now):
    server.now = max(server.now, now)
    if server.rules is None:
        return
    drop_late(server)
    close_idle(server)
    end_what_is_due(server)


def end_what_is_due(server):
    close_quiet_if_ending(server)
    close_all_if_grace_over(server)
    tidy_row(server)
    take_turns(server)


def settle(server):
    close_quiet_if_ending(server)
    tidy_row(server)
    take_turns(server)


def drop_late(server):
    if server.rules.limit == 0:
        return
    for who in sorted(server.inside):
        drop_late_of(server, who)


def drop_late_of(server, who):
    guest = server.inside[who]
    limit = server.rules.limit
    late_work = late_requests(guest.working, server.now, limit)
    late_waits = late_requests(guest.waiting, server.now, limit)
    for request in late_work:
        want_cancel(server, who, request.number)
        want_tell(server, who, request.number, TELL_TOO_LATE)
    for request in late_waits:
        want_tell(server, who, request.number, TELL_TOO_LATE)
    if len(late_work) + len(late_waits) > 0:
        guest.heard_at = server.now
    guest.working = timely_requests(guest.working, server.now, limit)
    guest.waiting = timely_requests(guest.waiting, server.now, limit)


def quiet_numbers(server):
    return [who for who in sorted(server.inside) if is_quiet(server.inside[who])]


def close_idle(server):
    idle = server.rules.idle
    if idle == 0:
        return
    quiet = quiet_numbers(server)
    unheard = [who for who in quiet if server.now - server.inside[who].heard_at >= idle]
    close_all_of(server, unheard, CLOSE_IDLE)


def is_grace_over(server):
    return server.ending and server.grace_end <= server.now


def close_quiet_if_ending(server):
    if server.ending:
        close_all_of(server, quiet_numbers(server), CLOSE_ENDING)


def close_all_if_grace_over(server):
    if not is_grace_over(server):
        return
    numbers = sorted(server.inside)
    for who in numbers:
        cancel_work(server, who)
    close_all_of(server, numbers, CLOSE_GRACE_OVER)


def tidy_row(server):
    kept = []
    for who in server.row:
        guest = server.inside[who]
        if len(guest.waiting) > 0:
            kept.append(who)
        else:
            guest.credit = 0
    server.row = kept


def take_turns(server):
    free = server.rules.work - count_working(server)
    while free > 0 and len(server.row) > 0:
        who = server.row[0]
        guest = server.inside[who]
        if guest.credit >= guest.waiting[0].cost:
            start_first(server, who)
            free = free - 1
        else:
            guest.credit = guest.credit + CREDIT_FOR_WEIGHT * guest.weight
            server.row.append(server.row.pop(0))


def start_first(server, who):
    guest = server.inside[who]
    request = guest.waiting.pop(0)
    request.since = server.now
    guest.working.append(request)
    guest.credit = guest.credit - request.cost
    want_start(server, who, request)
    if len(guest.waiting) == 0:
        guest.credit = 0
        server.row.pop(0)
