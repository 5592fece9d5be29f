"""What the calls promise once it's ending."""

import unittest

from tests.helper import (
    ENDING, GRACE_OVER, IDLE, NOTHING_LEFT, TOO_LATE, answer, answers_call, arrives, asks, begin, cancel, close, counted,
    drops, heard, leaves, look, looked, run, start, stop, tell, tick, told_call, weight,
)


def stopped(grace=100, now=0, **rules):
    """0 has a request that waits, 1 has two that are worked at and one that waits, 2 is quiet and leaves."""
    rules = {"work": 2, "wait": 4, **rules}
    return [
        begin(**rules), arrives(), arrives(), arrives(), asks(1, 5), asks(1, 4), asks(0, 6), asks(1, 7), stop(grace, now),
    ]


class Ending(unittest.TestCase):
    def behind(self, *calls, **rules):
        before = stopped(**rules)
        return run(*before, *calls)[len(before):]

    def test_the_quiet_one_left_at_once(self):
        self.assertEqual(run(*stopped())[-1], (0, [close(2, NOTHING_LEFT)]))
        self.assertEqual(self.behind(heard(2)), [(-2, [])])

    def test_nobody_arrives(self):
        self.assertEqual(self.behind(arrives(9, now=1), arrives(9, now=100), arrives(9, now=101)), [
            (-8, []), (-8, [cancel(1, 5), cancel(1, 4), close(0, GRACE_OVER), close(1, GRACE_OVER)]), (-8, []),
        ])

    def test_out_of_range_comes_before_ending(self):
        self.assertEqual(self.behind(arrives(2 ** 32)), [(-1, [])])

    def test_asks_are_told_off_and_heard(self):
        told = self.behind(asks(0, 9, now=2), look(0), told_call())
        self.assertEqual(told, [
            (3, [tell(0, 9, ENDING)]), looked(heard_at=2, waiting=[6]), counted(2, 2, 2, 4, 0, 1, 1, 2),
        ])

    def test_same_number_nobody_and_out_of_range_come_before_ending(self):
        told = self.behind(asks(0, 6), asks(1, 5), asks(2, 1), asks(0, 1, cost=0))
        self.assertEqual(told, [(-3, []), (-3, []), (-2, []), (-1, [])])

    def test_ending_comes_before_the_rate(self):
        told = run(begin(rate=1), arrives(), asks(0, 1), asks(0, 2), stop(9), asks(0, 2))
        self.assertEqual([number for number, wants in told[2:]], [0, 2, 0, 3])

    def test_ending_comes_before_too_many(self):
        told = run(begin(wait=0), arrives(), asks(0, 1), asks(0, 2), stop(9), asks(0, 2))
        self.assertEqual([number for number, wants in told[2:]], [0, 1, 0, 3])

    def test_told_off_though_a_hand_is_free(self):
        told = run(begin(work=2), arrives(), asks(0, 1), stop(9), asks(0, 2))
        self.assertEqual(told[4], (3, [tell(0, 2, ENDING)]))

    def test_what_waits_is_still_started_and_who_is_done_leaves(self):
        told = self.behind(answers_call(1, 5, now=2, data=[8]), answers_call(0, 6, now=3), drops(1, 4, now=4), drops(1, 7, now=4))
        self.assertEqual(told, [
            (0, [answer(1, 5, [8]), start(0, 6)]),
            (0, [answer(0, 6), close(0, NOTHING_LEFT), start(1, 7)]),
            (1, [cancel(1, 4)]),
            (1, [cancel(1, 7), close(1, NOTHING_LEFT)]),
        ])

    def test_who_drops_its_last_that_waits_leaves(self):
        told = self.behind(drops(0, 6), answers_call(1, 4), told_call())
        self.assertEqual(told, [
            (0, [close(0, NOTHING_LEFT)]), (0, [answer(1, 4), start(1, 7)]), counted(1, 2, 0, 4, 1, 0, 1, 0),
        ])

    def test_leaves_has_no_close_of_its_own(self):
        self.assertEqual(self.behind(leaves(1, now=1), leaves(0, now=1)), [
            (3, [cancel(1, 5), cancel(1, 4), start(0, 6)]), (1, [cancel(0, 6)]),
        ])

    def test_heard_and_weight_let_who_has_something_stay(self):
        told = self.behind(heard(0, now=1), weight(1, 3, now=2), look(0), look(1))
        self.assertEqual(told, [
            (0, []), (0, []), looked(heard_at=1, waiting=[6]), looked(weight=3, working=[5, 4], waiting=[7]),
        ])

    def test_too_late_then_quiet(self):
        self.assertEqual(self.behind(leaves(1, now=10), limit=10), [(-2, [
            tell(0, 6, TOO_LATE), cancel(1, 5), tell(1, 5, TOO_LATE), cancel(1, 4), tell(1, 4, TOO_LATE), tell(1, 7, TOO_LATE),
            close(0, NOTHING_LEFT), close(1, NOTHING_LEFT),
        ])])

    def test_too_late_comes_before_grace(self):
        told = self.behind(tick(10), limit=10, grace=10)
        self.assertEqual(told[0][1][-2:], [close(0, NOTHING_LEFT), close(1, NOTHING_LEFT)])

    def test_idle_comes_before_the_end(self):
        told = run(begin(idle=10), arrives(), arrives(now=5), asks(1, 1, now=5), stop(0, now=10))
        self.assertEqual(told[4], (0, [close(0, IDLE), cancel(1, 1), close(1, GRACE_OVER)]))


class Grace(unittest.TestCase):
    def test_over_when_its_end_is_not_later(self):
        before = stopped(grace=100)
        over = [cancel(1, 5), cancel(1, 4), close(0, GRACE_OVER), close(1, GRACE_OVER)]
        for call, number in (
            (tick(100), 0), (heard(0, now=100), -2), (asks(0, 9, now=101), -2), (answers_call(1, 5, now=100), -2),
            (drops(1, 5, now=500), -2), (leaves(1, now=100), -2), (weight(1, 2, now=100), -2), (arrives(now=100), -8),
            (stop(7, now=100), -8),
        ):
            told = run(*before, tick(99), call, told_call())[len(before):]
            self.assertEqual(told[:2], [(0, []), (number, over)], call)
            self.assertEqual(told[2], counted(taken=4, ending=1, now=call[-1] if call[0] not in (3, 4) else call[-2]), call)

    def test_by_numbers_and_in_order(self):
        told = run(*stopped(work=3, grace=100), tick(101))
        self.assertEqual(told[-1], (0, [cancel(0, 6), cancel(1, 5), cancel(1, 4), close(0, GRACE_OVER), close(1, GRACE_OVER)]))

    def test_counted_from_the_latest_time(self):
        told = run(begin(now=50), arrives(), asks(0, 1), stop(10, now=20), tick(59), tick(60))
        self.assertEqual(told[3:], [(0, []), (0, []), (0, [cancel(0, 1), close(0, GRACE_OVER)])])

    def test_nothing_is_told_of_what_waited(self):
        told = run(begin(), arrives(), asks(0, 1), asks(0, 2), stop(10), tick(10), told_call())
        self.assertEqual(told[5:], [(0, [cancel(0, 1), close(0, GRACE_OVER)]), counted(taken=2, ending=1, now=10)])

    def test_once_only(self):
        told = run(*stopped(grace=5), tick(5), tick(6), tick(5))
        self.assertEqual(told[-2:], [(0, []), (0, [])])


if __name__ == "__main__":
    unittest.main()
