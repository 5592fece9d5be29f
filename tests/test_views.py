"""due, told, look."""

import unittest

from tests.helper import (
    LAST_TIME, TOO_LATE, TOO_MANY, TOO_OFTEN, TOP, answers_call, arrives, asks, begin, cancel, counted, drops, due, heard,
    last, leaves, look, looked, numbers, run, stop, tell, tick, told_call, weight,
)


def at(time):
    return ([1, time], [])


NEVER = ([0], [])


class Due(unittest.TestCase):
    def test_without_rules(self):
        self.assertEqual(run(due(), tick(9), due()), [NEVER, (0, []), NEVER])

    def test_nobody_is_in(self):
        self.assertEqual(last(begin(idle=5, limit=5), due()), NEVER)

    def test_no_rule_of_time(self):
        self.assertEqual(last(begin(), arrives(), asks(0, 1), asks(0, 2), arrives(), due()), NEVER)

    def test_idle(self):
        told = run(begin(idle=10), arrives(now=3), due(), heard(0, now=7), due(), leaves(0, now=7), due())
        self.assertEqual([told[2], told[4], told[6]], [at(13), at(17), NEVER])

    def test_earliest_idle_of_several(self):
        told = run(begin(idle=10), arrives(), arrives(now=2), arrives(now=4), heard(0, now=5), due(), leaves(1, now=5), due())
        self.assertEqual([told[5], told[7]], [at(12), at(14)])

    def test_only_quiet_ones_are_idle(self):
        told = run(begin(idle=10), arrives(), asks(0, 1, now=1), due(), arrives(now=2), asks(1, 1, now=2), due(),
                   answers_call(0, 1, now=4), due())
        self.assertEqual([told[3], told[6], told[8]], [NEVER, NEVER, at(14)])

    def test_idle_without_rule_but_limit(self):
        self.assertEqual(last(begin(limit=10), arrives(), due()), NEVER)

    def test_worked_at_too_late(self):
        told = run(begin(limit=10), arrives(), asks(0, 1, now=3), due(), answers_call(0, 1, now=4), due())
        self.assertEqual([told[3], told[5]], [at(13), NEVER])

    def test_waits_too_long(self):
        told = run(begin(limit=10), arrives(), asks(0, 1), asks(0, 2, now=1), asks(0, 3, now=2), due(),
                   drops(0, 1, now=6), due(), drops(0, 3, now=6), due())
        # 2 is worked at since 6; 3 waits since 2.
        self.assertEqual([told[5], told[7], told[9]], [at(10), at(12), at(16)])

    def test_waits_longer_than_it_is_worked_at(self):
        told = last(begin(limit=10), arrives(), arrives(), asks(0, 1), asks(0, 2), asks(1, 1, now=1), answers_call(0, 1, now=5), due())
        self.assertEqual(told, at(11))

    def test_not_by_number_or_order(self):
        calls = [begin(idle=30, limit=10, work=3), arrives(), arrives(), arrives(), asks(2, 1, now=2), asks(1, 1, now=4)]
        told = run(*calls, due(), answers_call(2, 1, now=5), due(), drops(1, 1, now=6), due())
        self.assertEqual([told[6], told[8], told[10]], [at(12), at(14), at(30)])

    def test_earliest_of_all_kinds(self):
        for idle, limit, grace in ((5, 6, 7), (6, 5, 7), (7, 6, 5), (50, 50, 9)):
            calls = [begin(idle=idle, limit=limit), arrives(), arrives(), asks(0, 1)]
            self.assertEqual(last(*calls, due()), at(min(idle, limit)))
            # Once it's ending nobody in is quiet, so nothing is idle.
            self.assertEqual(last(*calls, stop(grace), due()), at(min(limit, grace)))

    def test_grace(self):
        told = run(begin(), arrives(), asks(0, 1), stop(10, now=5), due(), tick(14), due(), tick(15), due())
        self.assertEqual([told[4], told[6], told[8]], [at(15), at(15), NEVER])

    def test_grace_while_nobody_is_in(self):
        told = run(begin(), stop(10), due(), tick(9), due(), tick(10), due())
        self.assertEqual([told[2], told[4], told[6]], [at(10), at(10), NEVER])

    def test_grace_that_is_over_already(self):
        self.assertEqual(last(begin(), arrives(), asks(0, 1), stop(0), due()), NEVER)
        self.assertEqual(last(begin(idle=3, limit=3), arrives(), asks(0, 1), stop(0, now=2), due()), NEVER)

    def test_begin_forgets_grace(self):
        self.assertEqual(last(begin(), stop(10), begin(), due()), NEVER)

    def test_greatest_times(self):
        span = 2 ** 31
        before = [begin(idle=span, limit=span), arrives(now=LAST_TIME)]
        self.assertEqual(last(*before, due()), at(LAST_TIME + span))
        self.assertEqual(last(*before, asks(0, 1, now=LAST_TIME), due()), at(LAST_TIME + span))
        self.assertEqual(last(begin(), stop(span, now=LAST_TIME), due()), at(LAST_TIME + span))

    def test_nothing_before_and_something_then(self):
        before = [begin(idle=7, limit=9), arrives(), arrives(now=1), asks(0, 1, now=2), asks(1, 1, now=3), answers_call(0, 1, now=4)]
        for steps in range(4):
            told = last(*before, due())
            time = told[0][1]
            self.assertEqual(last(*before, tick(time - 1)), (0, []))
            self.assertNotEqual(last(*before, tick(time))[1], [])
            before.append(tick(time))
            if last(*before, due()) == NEVER:
                break
        self.assertEqual(last(*before, due()), NEVER)


class Told(unittest.TestCase):
    def test_without_rules(self):
        self.assertEqual(run(told_call()), [counted()])

    def test_at_first(self):
        self.assertEqual(last(begin(now=9), told_call()), counted(now=9))

    def test_who_is_in(self):
        told = run(begin(), arrives(), arrives(), told_call(), leaves(0), told_call())
        self.assertEqual([told[3], told[5]], [counted(inside=2), counted(inside=1)])

    def test_worked_at_and_waiting_of_all(self):
        calls = [begin(work=3), arrives(), arrives()] + [asks(0, k) for k in range(4)] + [asks(1, k) for k in range(3)]
        told = run(*calls, told_call(), drops(0, 3), told_call(), leaves(0), told_call())
        self.assertEqual(told[-5], counted(2, 3, 4, 7))
        self.assertEqual(told[-3], counted(2, 3, 3, 7))
        self.assertEqual(told[-1], counted(1, 3, 0, 7))

    def test_answered(self):
        told = run(begin(), arrives(), asks(0, 1), answers_call(0, 1), asks(0, 1), answers_call(0, 1), answers_call(0, 1), told_call())
        self.assertEqual(told[-1], counted(inside=1, taken=2, answered=2))

    def test_told_off_for_each_why(self):
        calls = [begin(wait=1, rate=1, burst=3, limit=10), arrives(), asks(0, 1), asks(0, 2)]
        told = run(*calls, asks(0, 3), told_call())
        self.assertEqual(told[4:], [(1, [tell(0, 3, TOO_MANY)]), counted(1, 1, 1, 2, 0, 1)])
        calls = [begin(rate=1, limit=10), arrives(), asks(0, 1), asks(0, 2)]
        told = run(*calls, told_call(), stop(50), asks(0, 2), told_call(), tick(10), told_call())
        self.assertEqual(told[3:5], [(2, [tell(0, 2, TOO_OFTEN)]), counted(1, 1, 0, 1, 0, 1)])
        self.assertEqual(told[7], counted(1, 1, 0, 1, 0, 2, 1))
        self.assertEqual(told[9], counted(0, 0, 0, 1, 0, 3, 1, 10))

    def test_refused_is_not_counted(self):
        told = last(begin(), arrives(), asks(0, 1), asks(0, 1), asks(9, 2), asks(0, 3, cost=0), answers_call(0, 9), told_call())
        self.assertEqual(told, counted(1, 1, 0, 1))

    def test_drops_and_leaves_are_not_told_off(self):
        told = last(begin(), arrives(), asks(0, 1), asks(0, 2), asks(0, 3), drops(0, 1), drops(0, 3), leaves(0), told_call())
        self.assertEqual(told, counted(taken=3))

    def test_counts_stay_when_who_asked_is_gone(self):
        told = last(begin(), arrives(), asks(0, 1), answers_call(0, 1), leaves(0), told_call())
        self.assertEqual(told, counted(taken=1, answered=1))

    def test_ending(self):
        told = run(begin(), told_call(), stop(9), told_call(), tick(20), told_call(), begin(), told_call())
        self.assertEqual([told[k] for k in (1, 3, 5, 7)], [
            counted(), counted(ending=1), counted(ending=1, now=20), counted(),
        ])

    def test_time_is_the_latest(self):
        told = run(begin(), arrives(now=8), told_call(), heard(0, now=5), told_call(), heard(0, now=LAST_TIME), told_call())
        self.assertEqual([told[k] for k in (2, 4, 6)], [
            counted(inside=1, now=8), counted(inside=1, now=8), counted(inside=1, now=LAST_TIME),
        ])


class Look(unittest.TestCase):
    def test_nobody(self):
        for who in (0, 63, 64, TOP):
            self.assertEqual(run(look(who)), [([-2], [])])
            self.assertEqual(last(begin(), look(who)), ([-2], []))
        for who in (1, 63, 64, TOP):
            self.assertEqual(last(begin(), arrives(), look(who)), ([-2], []))
        self.assertEqual(last(begin(), arrives(), leaves(0), look(0)), ([-2], []))

    def test_quiet(self):
        told = run(begin(), arrives(4, now=6), arrives(5, now=7), look(0), look(1))
        self.assertEqual(told[3:], [looked(address=4, heard_at=6), looked(address=5, heard_at=7)])

    def test_the_last_number(self):
        self.assertEqual(last(begin(), *[arrives(k) for k in range(64)], look(63)), looked(address=63))

    def test_worked_at_ahead_of_waiting_in_order(self):
        calls = [begin(work=2), arrives(3)] + [asks(0, k, now=k) for k in (1, 0, 8, 2 ** 32 - 1, 4)]
        told = run(*calls, look(0), answers_call(0, 1), look(0))
        self.assertEqual(told[7], looked(3, heard_at=2 ** 32 - 1, working=[1, 0], waiting=[8, 2 ** 32 - 1, 4]))
        self.assertEqual(told[9], looked(3, heard_at=2 ** 32 - 1, working=[0, 8], waiting=[2 ** 32 - 1, 4], credit=999))

    def test_only_waiting(self):
        self.assertEqual(last(begin(), arrives(), arrives(), asks(0, 1), asks(1, 7), look(1)), looked(waiting=[7]))

    def test_credit_left_over(self):
        calls = [begin(), arrives(), asks(0, 9), asks(0, 1, cost=300), asks(0, 2, cost=900), answers_call(0, 9)]
        told = run(*calls, look(0), answers_call(0, 1), look(0))
        # With 1 gone, 900 of 700 isn't there: one more round, and then nothing waits and the credit is 0.
        self.assertEqual([told[6], told[8]], [looked(credit=700, working=[1], waiting=[2]), looked(working=[2])])

    def test_credit_is_gone_with_the_last_that_waits(self):
        calls = [begin(limit=10), arrives(), arrives(), asks(0, 9), asks(1, 1, cost=1500), asks(0, 8, now=5), answers_call(0, 9)]
        told = run(*calls, look(1), drops(1, 1), look(1))
        self.assertEqual([told[7], told[9]], [looked(credit=2000, waiting=[1]), looked(heard_at=5)])
        self.assertEqual(last(*calls, tick(10), look(1)), looked(heard_at=10))

    def test_credit_stays_while_something_waits(self):
        calls = [begin(), arrives(), arrives(), asks(0, 9), asks(1, 1, cost=1500), asks(1, 2), asks(0, 8), answers_call(0, 9)]
        self.assertEqual(last(*calls, drops(1, 1), look(1)), looked(credit=2000, waiting=[2]))

    def test_heard_by_each_call(self):
        before = [begin(work=2), arrives(), asks(0, 1, now=1), asks(0, 2, now=1), asks(0, 3, now=1)]
        for call, time in (
            (heard(0, now=5), 5), (asks(0, 4, now=5), 5), (asks(0, 3, now=5), 1), (answers_call(0, 1, now=5), 5),
            (answers_call(0, 3, now=5), 1), (drops(0, 1, now=5), 5), (drops(0, 3, now=5), 5), (drops(0, 4, now=5), 1),
            (weight(0, 2, now=5), 1), (tick(5), 1), (arrives(now=5), 1), (heard(1, now=5), 1), (stop(9, now=5), 1),
            (weight(0, 17, now=5), 1),
        ):
            self.assertEqual(last(*before, call, look(0))[0][6], time, call)

    def test_heard_when_too_late(self):
        told = run(begin(limit=10), arrives(), arrives(), asks(0, 1), tick(10), look(0), look(1))
        self.assertEqual(told[4:], [(0, [cancel(0, 1), tell(0, 1, TOO_LATE)]), looked(heard_at=10), looked()])


class NoTimeGoesOn(unittest.TestCase):
    def test_they_change_nothing(self):
        calls = [
            begin(work=2, idle=10, limit=8, rate=500, burst=2), arrives(), arrives(1, now=1), asks(0, 1, now=2), asks(0, 2, now=2),
            asks(1, 1, now=3), asks(0, 3, now=3), weight(1, 2, now=4), answers_call(0, 1, now=5), tick(9), drops(1, 1, now=10),
            heard(0, now=11), stop(6, now=12), tick(18),
        ]
        views = [due(), told_call(), look(0), look(1), look(9), due()]
        mixed = []
        for call in calls:
            mixed += [call] + views
        told = run(*views, *mixed)[len(views):]
        self.assertEqual(told[::len(views) + 1], run(*calls))
        for place in range(0, len(told), len(views) + 1):
            self.assertEqual([wants for answered, wants in told[place + 1:place + 1 + len(views)]], [[]] * len(views))
            self.assertEqual(told[place + 1], told[place + len(views)])

    def test_nothing_leaves_or_starts_between(self):
        told = run(begin(limit=10), arrives(), asks(0, 1), asks(0, 2, now=5), due(), look(0), told_call(), look(0))
        self.assertEqual(told[5], told[7])
        self.assertEqual(told[6], counted(1, 1, 1, 2, now=5))
        self.assertEqual(numbers(begin(), due(), told_call(), look(0))[1:], [[0], [0] * 9, [-2]])


if __name__ == "__main__":
    unittest.main()
