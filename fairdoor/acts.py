"""The calls that change a server: each answers a number and leaves its wants with the server."""

from fairdoor.guest import Guest, Request, find_request, refill_chances, without_request
from fairdoor.refusals import ADDRESS_FULL, FULL, HAS_IT_ALREADY, IS_ENDING
from fairdoor.refusals import NOBODY, NO_RULES, NOT_WORKED_AT, OUT_OF_RANGE
from fairdoor.rules import address_fits, grace_fits, request_fits, rules_fit, time_fits, weight_fits
from fairdoor.server import TELL_ENDING, TELL_TOO_MANY, TELL_TOO_OFTEN
from fairdoor.server import cancel_work, count_from, count_working, least_free_number, send_away, set_anew
from fairdoor.server import want_answer, want_cancel, want_tell
from fairdoor.turns import end_what_is_due, go_on, settle

ONE_CHANCE = 1000


def begin(server, rules, now):
    if not rules_fit(rules) or not time_fits(now):
        return OUT_OF_RANGE
    # Time stands anew here: it does not go on for those who were in before.
    set_anew(server, rules, now)
    return 0


def arrive(server, address, now):
    if not address_fits(address) or not time_fits(now):
        return OUT_OF_RANGE
    go_on(server, now)
    if server.rules is None:
        return NO_RULES
    if server.ending:
        return IS_ENDING
    if len(server.inside) >= server.rules.most:
        return FULL
    if count_from(server, address) >= server.rules.each:
        return ADDRESS_FULL
    who = least_free_number(server)
    server.inside[who] = Guest(address, ONE_CHANCE * server.rules.burst, server.now)
    return who


def refuses(server, who, now):
    if not time_fits(now):
        return OUT_OF_RANGE
    go_on(server, now)
    # Any number that nobody in has, however large: numbers of those in are only looked up.
    if who not in server.inside:
        return NOBODY
    return 0


def ask(server, who, number, cost, now, data):
    if not request_fits(number, cost, data):
        return OUT_OF_RANGE
    refused = refuses(server, who, now)
    if refused < 0:
        return refused
    guest = server.inside[who]
    if find_request(guest.waiting + guest.working, number) is not None:
        return HAS_IT_ALREADY
    guest.heard_at = server.now
    why = why_not_taken(server, guest)
    if why == 0:
        take(server, who, Request(number, cost, data, server.now))
    else:
        want_tell(server, who, number, why)
    settle(server)
    return why


def why_not_taken(server, guest):
    if server.ending:
        return TELL_ENDING
    rules = server.rules
    if rules.rate > 0:
        refill_chances(guest, server.now, rules.rate, rules.burst)
        if guest.chances < ONE_CHANCE:
            return TELL_TOO_OFTEN
    # With a hand free the request is started at once, so it takes no place among those that wait.
    busy = count_working(server) >= rules.work or len(server.row) > 0
    if len(guest.waiting) >= rules.wait and busy:
        return TELL_TOO_MANY
    return 0


def take(server, who, request):
    guest = server.inside[who]
    if server.rules.rate > 0:
        guest.chances = guest.chances - ONE_CHANCE
    guest.waiting.append(request)
    if who not in server.row:
        server.row.append(who)
    server.taken = server.taken + 1


def answer(server, who, number, now, data):
    refused = refuses(server, who, now)
    if refused < 0:
        return refused
    guest = server.inside[who]
    if find_request(guest.working, number) is None:
        return NOT_WORKED_AT
    guest.working = without_request(guest.working, number)
    guest.heard_at = server.now
    want_answer(server, who, number, data)
    settle(server)
    return 0


def drop(server, who, number, now):
    refused = refuses(server, who, now)
    if refused < 0:
        return refused
    guest = server.inside[who]
    was_worked_at = find_request(guest.working, number) is not None
    if not was_worked_at and find_request(guest.waiting, number) is None:
        return NOT_WORKED_AT
    guest.heard_at = server.now
    guest.working = without_request(guest.working, number)
    guest.waiting = without_request(guest.waiting, number)
    if was_worked_at:
        want_cancel(server, who, number)
    settle(server)
    return 1 if was_worked_at else 0


def leave(server, who, now):
    refused = refuses(server, who, now)
    if refused < 0:
        return refused
    guest = server.inside[who]
    cancel_work(server, who)
    send_away(server, who)
    settle(server)
    return len(guest.working) + len(guest.waiting)


def hear(server, who, now):
    refused = refuses(server, who, now)
    if refused < 0:
        return refused
    guest = server.inside[who]
    guest.heard_at = server.now
    settle(server)
    return 0


def weigh(server, who, weight, now):
    if not weight_fits(weight):
        return OUT_OF_RANGE
    refused = refuses(server, who, now)
    if refused < 0:
        return refused
    guest = server.inside[who]
    guest.weight = weight
    settle(server)
    return 0


def tick(server, now):
    if not time_fits(now):
        return OUT_OF_RANGE
    go_on(server, now)
    return 0


def stop(server, grace, now):
    if not grace_fits(grace) or not time_fits(now):
        return OUT_OF_RANGE
    go_on(server, now)
    if server.rules is None:
        return NO_RULES
    if server.ending:
        return IS_ENDING
    server.ending = True
    server.grace_end = server.now + grace
    end_what_is_due(server)
    return 0
