"""What is seen from outside, over many lists of calls: the limits, and that each request is dealt with once."""

import random
import unittest

from tests.helper import answers_call, arrives, asks, begin, drops, heard, leaves, run


class Watcher:
    def __init__(self, case, rules):
        self.case = case
        self.rules = rules
        self.inside = {}
        self.working = {}
        self.waiting = {}

    def see_want(self, want):
        kind, who = want[0], want[1]
        self.case.assertIn(who, self.inside)
        pair = want[1:3]
        if kind == "start":
            self.case.assertIn(pair, self.waiting)
            first = [other for other in self.waiting if other[0] == who][0]
            self.case.assertEqual(first, pair)
            self.case.assertEqual(self.waiting.pop(pair), want[3])
            self.working[pair] = True
            self.case.assertLessEqual(len(self.working), self.rules["work"])
        if kind in ("answer", "cancel"):
            self.working.pop(pair)
        if kind == "tell" and want[3] == 4:
            self.waiting.pop(pair, None)
            self.case.assertNotIn(pair, self.working)
        if kind == "close":
            self.case.assertEqual([other for other in self.all_pairs() if other[0] == who], [])
            self.inside.pop(who)

    def all_pairs(self):
        return list(self.waiting) + list(self.working)

    def see(self, call, number, wants):
        if call[0] == 3 and number == 0:
            # The wants of time stand ahead, the start of this request last of its own.
            pair = (call[1], call[2])
            own = [want for want in wants if want[0] == "start" and want[1:3] == pair and want[3] == call[6:]]
            early = wants[:wants.index(own[0])] if own else wants
            for want in early:
                self.see_want(want)
            self.case.assertNotIn(pair, self.all_pairs())
            self.waiting[pair] = call[6:]
            for want in wants[len(early):]:
                self.see_want(want)
        else:
            if call[0] == 5 and number == 0:
                self.drop_waiting(call, wants)
                return
            for want in wants:
                self.see_want(want)
        if call[0] == 2 and number >= 0:
            self.case.assertEqual(number, min(set(range(64)) - set(self.inside)))
            self.inside[number] = call[1]
        if call[0] == 4 and number == 0:
            self.case.assertIn(("answer", call[1], call[2], call[5:]), wants)
        if call[0] == 6 and number >= 0:
            left = [pair for pair in self.waiting if pair[0] == call[1]]
            cancels = [want for want in wants if want[0] == "cancel" and want[1] == call[1]]
            self.case.assertLessEqual(number, len(left) + len(cancels))
            for pair in left:
                self.waiting.pop(pair)
            self.case.assertEqual([pair for pair in self.working if pair[0] == call[1]], [])
            self.inside.pop(call[1])

    def drop_waiting(self, call, wants):
        for want in wants:
            self.see_want(want)
        self.waiting.pop((call[1], call[2]))

    def check(self):
        rules = self.rules
        self.case.assertLessEqual(len(self.inside), rules["most"])
        for address in self.inside.values():
            self.case.assertLessEqual(list(self.inside.values()).count(address), rules["each"])
        for who in self.inside:
            self.case.assertLessEqual(len([pair for pair in self.waiting if pair[0] == who]), rules["wait"])
        if len(self.working) < rules["work"]:
            self.case.assertEqual(self.waiting, {})


def some_rules(chance):
    return {
        "most": chance.choice((1, 2, 4, 8)), "each": chance.choice((1, 2, 8)), "work": chance.choice((1, 2, 3, 5)),
        "wait": chance.choice((0, 1, 2, 5)), "idle": chance.choice((0, 0, 20)), "limit": chance.choice((0, 0, 15)),
        "rate": chance.choice((0, 0, 100, 1000)), "burst": chance.choice((1, 3)),
    }


def some_call(chance, now, mark):
    who = chance.randrange(5)
    request = chance.randrange(8)
    kind = chance.choice((2, 3, 3, 3, 3, 4, 4, 4, 5, 6 if chance.randrange(4) == 0 else 3, 7))
    if kind == 2:
        return arrives(chance.randrange(3), now)
    if kind == 3:
        return asks(who, request, chance.choice((1, 500, 1000, 3000, 65535, 0)), now, [mark // 256, mark % 256])
    if kind == 4:
        return answers_call(who, request, now, [mark % 256])
    if kind == 5:
        return drops(who, request, now)
    if kind == 6:
        return leaves(who, now)
    return heard(who, now)


class Watch(unittest.TestCase):
    def test_many_lists(self):
        for seed in range(300):
            chance = random.Random(seed)
            rules = some_rules(chance)
            now = 0
            calls = [begin(**rules)] + [arrives(k % 3) for k in range(3)]
            for mark in range(150):
                now = max(0, now + chance.choice((0, 0, 1, 1, 2, 5, -3)))
                calls.append(some_call(chance, now, mark))
            watcher = Watcher(self, rules)
            for call, (number, wants) in zip(calls, run(*calls)):
                with self.subTest(seed=seed, call=call):
                    watcher.see(call, number, wants)
                    watcher.check()


if __name__ == "__main__":
    unittest.main()
