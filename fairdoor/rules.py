"""The rules of a server, and the ranges that handed-in numbers are held to."""

LAST_TIME = 4611686018427387904
LONGEST_SPAN = 2147483648
NUMBERS_END = 4294967296
MOST_COST = 65535
MOST_BYTES = 65536
MOST_WEIGHT = 16


class Rules:
    def __init__(self, most, each, work, wait, idle, limit, rate, burst):
        self.most = most
        self.each = each
        self.work = work
        self.wait = wait
        self.idle = idle
        self.limit = limit
        self.rate = rate
        self.burst = burst


def within(number, least, most):
    return least <= number and number <= most


def time_fits(now):
    return within(now, 0, LAST_TIME)


def rules_fit(rules):
    return (
        within(rules.most, 1, 64)
        and within(rules.each, 1, 64)
        and within(rules.work, 1, 1024)
        and within(rules.wait, 0, 64)
        and within(rules.idle, 0, LONGEST_SPAN)
        and within(rules.limit, 0, LONGEST_SPAN)
        and within(rules.rate, 0, 1000000)
        and within(rules.burst, 1, 1000)
    )


def address_fits(address):
    return within(address, 0, NUMBERS_END - 1)


def request_fits(request, cost, data):
    return within(request, 0, NUMBERS_END - 1) and within(cost, 1, MOST_COST) and len(data) <= MOST_BYTES


def weight_fits(weight):
    return within(weight, 1, MOST_WEIGHT)


def grace_fits(grace):
    return within(grace, 0, LONGEST_SPAN)
