"""What is seen from outside, over many lists of calls: the limits, and that each request is dealt with once."""

import random
import unittest

from fairdoor.desk import answers
from tests.helper import (
    LAST_TIME, NOTHING_LEFT, GRACE_OVER, TOO_LATE, answers_call, arrives, asks, begin, drops, due, heard, last, leaves, look,
    run, stop, tick, told_call, weight,
)

RULES = ("most", "each", "work", "wait", "idle", "limit", "rate", "burst")
PLACE_OF_TIME = {2: 2, 3: 4, 4: 3, 5: 3, 6: 2, 7: 2, 8: 3, 9: 1, 10: 2}


class Watcher:
    """Keeps, from the answers alone, who is in and where each request is."""

    def __init__(self, case):
        self.case = case
        self.set_anew(None, 0)

    def set_anew(self, rules, now):
        self.rules = rules
        self.now = now
        self.ending = False
        self.inside = {}
        self.weights = {}
        self.working = {}
        self.waiting = {}
        self.taken = self.answered = self.told_off = 0

    def see(self, call, number, wants):
        kind = call[0]
        if kind in PLACE_OF_TIME and number != -1:
            self.now = max(self.now, call[PLACE_OF_TIME[kind]])
        if kind == 10 and number == 0:
            self.case.assertFalse(self.ending)
            self.ending = True
        if kind == 3 and number == 0:
            wants = self.see_taken(call, wants)
        for want in wants:
            if kind == 5 and number == 0 and want == ("close", call[1], NOTHING_LEFT):
                self.waiting.pop((call[1], call[2]))
            self.see_want(want)
        if kind in (1, 2, 4, 5, 6, 8) and number >= 0:
            {
                1: self.begun, 2: self.arrived, 4: self.given_answer, 5: self.dropped, 6: self.left, 8: self.weighed,
            }[kind](call, number, wants)

    def see_taken(self, call, wants):
        """The wants that are left, from the request's own start on; those of time stand ahead of it."""
        self.case.assertFalse(self.ending)
        pair = (call[1], call[2])
        own = ("start", *pair, call[6:])
        early = wants.index(own) if own in wants else len(wants)
        for want in wants[:early]:
            self.see_want(want)
        self.case.assertNotIn(pair, self.all_pairs())
        self.waiting[pair] = call[6:]
        self.taken += 1
        return wants[early:]

    def see_want(self, want):
        self.case.assertIn(want[1], self.inside)
        {
            "start": self.see_start, "answer": self.see_answer, "tell": self.see_tell, "cancel": self.see_cancel,
            "close": self.see_close,
        }[want[0]](*want[1:])

    def see_start(self, who, request, data):
        self.case.assertEqual(self.numbers_of(self.waiting, who)[0], request)
        self.case.assertEqual(self.waiting.pop((who, request)), data)
        self.working[(who, request)] = data
        self.case.assertLessEqual(len(self.working), self.rules["work"])

    def see_answer(self, who, request, data):
        self.working.pop((who, request))
        self.answered += 1

    def see_cancel(self, who, request):
        self.working.pop((who, request))

    def see_tell(self, who, request, why):
        if why == TOO_LATE:
            self.waiting.pop((who, request), None)
        self.case.assertNotIn((who, request), self.all_pairs())
        self.told_off += 1

    def see_close(self, who, why):
        if why == GRACE_OVER:
            self.case.assertEqual(self.working, {})
            self.forget_waiting(who)
        if why in (NOTHING_LEFT, GRACE_OVER):
            self.case.assertTrue(self.ending)
        self.case.assertEqual([pair for pair in self.all_pairs() if pair[0] == who], [])
        self.inside.pop(who)

    def forget_waiting(self, who):
        for request in self.numbers_of(self.waiting, who):
            self.waiting.pop((who, request))

    def begun(self, call, number, wants):
        self.case.assertEqual(wants, [])
        self.set_anew(dict(zip(RULES, call[1:9])), call[9])

    def arrived(self, call, number, wants):
        self.case.assertFalse(self.ending)
        self.case.assertEqual(number, min(set(range(64)) - set(self.inside)))
        self.inside[number] = call[1]
        self.weights[number] = 1

    def given_answer(self, call, number, wants):
        self.case.assertIn(("answer", call[1], call[2], call[5:]), wants)

    def dropped(self, call, number, wants):
        self.waiting.pop((call[1], call[2]), None)
        self.case.assertNotIn((call[1], call[2]), self.all_pairs())

    def left(self, call, number, wants):
        cancels = [want for want in wants if want[0] == "cancel" and want[1] == call[1]]
        self.case.assertLessEqual(number, len(self.numbers_of(self.waiting, call[1])) + len(cancels))
        self.forget_waiting(call[1])
        self.case.assertEqual(self.numbers_of(self.working, call[1]), [])
        self.inside.pop(call[1])

    def weighed(self, call, number, wants):
        self.weights[call[1]] = call[2]

    def all_pairs(self):
        return list(self.waiting) + list(self.working)

    def numbers_of(self, pairs, who):
        return [request for other, request in pairs if other == who]

    def compare(self, call, answered):
        """What told and look tell with what was seen."""
        if call[0] == 12:
            here = [len(self.inside), len(self.working), len(self.waiting)]
            ever = [self.taken, self.answered, self.told_off]
            self.case.assertEqual(answered, [0] + here + ever + [int(self.ending), self.now])
        if call[0] == 13 and call[1] not in self.inside:
            self.case.assertEqual(answered, [-2])
        if call[0] == 13 and call[1] in self.inside:
            who = call[1]
            working, waiting = self.numbers_of(self.working, who), self.numbers_of(self.waiting, who)
            self.case.assertEqual(answered[:3], [0, self.inside[who], self.weights[who]])
            self.case.assertEqual(answered[4:6], [len(waiting), len(working)])
            self.case.assertEqual(answered[7:], working + waiting)
            self.case.assertLessEqual(answered[6], self.now)
            if not waiting:
                self.case.assertEqual(answered[3], 0)

    def check(self):
        rules = self.rules
        self.case.assertLessEqual(len(self.inside), rules["most"])
        addresses = list(self.inside.values())
        for address in addresses:
            self.case.assertLessEqual(addresses.count(address), rules["each"])
        for who in self.inside:
            self.case.assertLessEqual(len(self.numbers_of(self.waiting, who)), rules["wait"])
        if len(self.working) < rules["work"]:
            self.case.assertEqual(self.waiting, {})
        if self.ending:
            self.case.assertEqual(set(self.inside), {who for who, request in self.all_pairs()})


def some_rules(chance):
    return {
        "most": chance.choice((1, 2, 4, 8)), "each": chance.choice((1, 2, 8)), "work": chance.choice((1, 2, 3, 5)),
        "wait": chance.choice((0, 1, 2, 5)), "idle": chance.choice((0, 0, 20)), "limit": chance.choice((0, 0, 15)),
        "rate": chance.choice((0, 0, 100, 1000)), "burst": chance.choice((1, 3)),
    }


def some_call(chance, now, mark):
    who, request = chance.randrange(5), chance.randrange(8)
    kind = chance.choices(range(2, 14), (3, 12, 10, 3, 1, 2, 2, 2, 0, 1, 3, 3))[0]
    makers = {
        2: lambda: arrives(chance.randrange(3), now),
        3: lambda: asks(who, request, chance.choice((1, 500, 1000, 3000, 65535, 0)), now, [mark // 256, mark % 256]),
        4: lambda: answers_call(who, request, now, [mark % 256]),
        5: lambda: drops(who, request, now),
        6: lambda: leaves(who, now),
        7: lambda: heard(who, now),
        8: lambda: weight(who, chance.choice((0, 1, 2, 5, 16, 17)), now),
        9: lambda: tick(now),
        11: due,
        12: told_call,
        13: lambda: look(who),
    }
    return makers[kind]()


def some_calls(chance, lives, each_life):
    """Several begins, each with a stop at some time behind it, and calls of all kinds."""
    calls = []
    now = 0
    for life in range(lives):
        now = chance.choice((now, 0, now // 2))
        calls += [begin(**some_rules(chance), now=now)] + [arrives(k % 3, now) for k in range(3)]
        stop_at = chance.randrange(each_life)
        for step in range(each_life):
            now = max(0, now + chance.choice((0, 0, 1, 1, 2, 5, -3)))
            calls.append(some_call(chance, now, len(calls)))
            if step == stop_at or (step > stop_at and chance.randrange(20) == 0):
                calls.append(stop(chance.choice((0, 5, 30, 2 ** 31, 2 ** 31 + 1)), now))
    return calls


class Watch(unittest.TestCase):
    def watch(self, calls):
        watcher = Watcher(self)
        for place, (call, (answered, wants)) in enumerate(zip(calls, run(*calls))):
            with self.subTest(place=place, call=call):
                if call[0] in (11, 12, 13):
                    self.assertEqual(wants, [])
                    watcher.compare(call, answered)
                else:
                    watcher.see(call, answered, wants)
                watcher.check()

    def test_many_lists(self):
        for seed in range(200):
            with self.subTest(seed=seed):
                self.watch(some_calls(random.Random(seed), 1, 150))

    def test_long_lists_of_all_kinds(self):
        for seed in range(40):
            calls = some_calls(random.Random(-1 - seed), 4, 200)
            self.assertEqual({call[0] for call in calls}, set(range(1, 14)))
            self.assertLessEqual(len(calls), 1000)
            with self.subTest(seed=seed):
                self.watch(calls)

    def test_lists_stay_and_are_answered_alike(self):
        for seed in range(20):
            flat = [number for call in some_calls(random.Random(seed), 4, 200) for number in call]
            before = list(flat)
            first = answers(flat)
            self.assertEqual(flat, before)
            self.assertEqual(answers(flat), first)
            self.assertEqual({type(number) for number in first}, {int})

    def test_due_is_the_first_time_that_has_wants(self):
        kinds = set()
        for seed in range(400):
            chance = random.Random(seed)
            calls = some_calls(chance, 1, 40)[:chance.randrange(4, 46)]
            answered = last(*calls, due())[0]
            kinds.add(answered[0])
            if answered == [0]:
                self.assertEqual(last(*calls, tick(LAST_TIME)), (0, []), seed)
                continue
            counts = last(*calls, told_call())[0]
            self.assertGreater(answered[1], counts[8], seed)
            self.assertEqual(last(*calls, tick(answered[1] - 1)), (0, []), seed)
            # With nobody in, grace is over without a want.
            if counts[1] > 0:
                self.assertNotEqual(last(*calls, tick(answered[1])), (0, []), seed)
            else:
                self.assertEqual(last(*calls, tick(answered[1]), due()), ([0], []), seed)
        self.assertEqual(kinds, {0, 1})


if __name__ == "__main__":
    unittest.main()
