"""Who is in, and the requests that one who is in has."""


class Request:
    def __init__(self, number, cost, data, since):
        self.number = number
        self.cost = cost
        self.data = data
        self.since = since


class Guest:
    def __init__(self, address, chances, now):
        self.address = address
        self.weight = 1
        self.credit = 0
        self.waiting = []
        self.working = []
        self.heard_at = now
        # In thousandths, as the rate is told for each millisecond.
        self.chances = chances
        self.looked_at = now


def is_quiet(guest):
    return len(guest.waiting) == 0 and len(guest.working) == 0


def find_request(requests, number):
    for request in requests:
        if request.number == number:
            return request
    return None


def without_request(requests, number):
    return [request for request in requests if request.number != number]


def late_requests(requests, now, limit):
    return [request for request in requests if now - request.since >= limit]


def timely_requests(requests, now, limit):
    return [request for request in requests if now - request.since < limit]


def refill_chances(guest, now, rate, burst):
    more = rate * (now - guest.looked_at)
    guest.chances = min(guest.chances + more, 1000 * burst)
    guest.looked_at = now
