import unittest

from tests.helper import (
    GRACE_OVER, IDLE, LAST_TIME, NOTHING_LEFT, TOO_LATE, TOP, arrives, asks, begin, cancel, close, counted, due, heard, last,
    look, looked, run, start, stop, tell, tick, told_call,
)


class Tick(unittest.TestCase):
    def test_nothing_is_due(self):
        self.assertEqual(run(begin(), tick(5), told_call())[1:], [(0, []), counted(now=5)])

    def test_without_rules(self):
        self.assertEqual(run(tick(), tick(7), told_call(), tick(3), told_call()), [
            (0, []), (0, []), counted(now=7), (0, []), counted(now=7),
        ])

    def test_ranges(self):
        self.assertEqual(run(tick(LAST_TIME), told_call()), [(0, []), counted(now=LAST_TIME)])
        for now in (LAST_TIME + 1, TOP):
            self.assertEqual(run(tick(now), told_call()), [(-1, []), counted()])
            told = run(begin(idle=10), arrives(), tick(now), told_call())
            self.assertEqual(told[2:], [(-1, []), counted(inside=1)])

    def test_an_earlier_time_is_taken_as_the_latest(self):
        told = run(begin(now=50), tick(40), told_call(), tick(51), told_call())
        self.assertEqual(told[1:], [(0, []), counted(now=50), (0, []), counted(now=51)])

    def test_hears_nobody(self):
        told = run(begin(idle=10), arrives(), tick(9), look(0), tick(10), look(0))
        self.assertEqual(told[2:], [(0, []), looked(), (0, [close(0, IDLE)]), ([-2], [])])

    def test_too_late_idle_and_turns_in_order(self):
        told = run(
            begin(idle=10, limit=10), arrives(), arrives(), asks(1, 1), asks(1, 2), asks(1, 3, now=1), tick(9), tick(10), tick(20),
        )
        self.assertEqual(told[6:], [
            (0, []),
            (0, [cancel(1, 1), tell(1, 1, TOO_LATE), tell(1, 2, TOO_LATE), close(0, IDLE), start(1, 3)]),
            (0, [cancel(1, 3), tell(1, 3, TOO_LATE)]),
        ])

    def test_goes_on_as_the_other_calls_do(self):
        before = [begin(idle=10, limit=10), arrives(), arrives(), asks(1, 1), asks(1, 2, now=1)]
        for now in (0, 9, 10, 11, 20, 21, LAST_TIME):
            self.assertEqual(last(*before, tick(now))[1], last(*before, heard(9, now))[1], now)


class Stop(unittest.TestCase):
    def test_quiet_ones_leave_by_numbers(self):
        told = run(begin(), arrives(), arrives(), arrives(), asks(1, 1), stop(10), told_call())
        self.assertEqual(told[5:], [
            (0, [close(0, NOTHING_LEFT), close(2, NOTHING_LEFT)]), counted(1, 1, 0, 1, 0, 0, 1, 0),
        ])

    def test_nobody_is_in(self):
        for grace in (0, 10):
            self.assertEqual(run(begin(), stop(grace), told_call())[1:], [(0, []), counted(ending=1)])

    def test_nothing_is_left(self):
        for grace in (0, 10):
            told = run(begin(), arrives(), arrives(), stop(grace))
            self.assertEqual(told[3], (0, [close(0, NOTHING_LEFT), close(1, NOTHING_LEFT)]))

    def test_no_grace(self):
        told = run(
            begin(work=2), arrives(), arrives(), arrives(), arrives(), asks(3, 5), asks(1, 4), asks(1, 6), asks(2, 7), stop(0),
            told_call(), tick(), due(),
        )
        self.assertEqual(told[9], (0, [
            close(0, NOTHING_LEFT), cancel(1, 4), cancel(3, 5), close(1, GRACE_OVER), close(2, GRACE_OVER), close(3, GRACE_OVER),
        ]))
        self.assertEqual(told[10:], [counted(taken=4, ending=1), (0, []), ([0], [])])

    def test_shortest_grace(self):
        told = run(begin(), arrives(), asks(0, 1), stop(1), tick(0), tick(1))
        self.assertEqual(told[3:], [(0, []), (0, []), (0, [cancel(0, 1), close(0, GRACE_OVER)])])

    def test_longest_grace(self):
        before = [begin(), arrives(), asks(0, 1)]
        told = run(*before, stop(2 ** 31, now=5), tick(2 ** 31 + 4), tick(2 ** 31 + 5))
        self.assertEqual(told[3:], [(0, []), (0, []), (0, [cancel(0, 1), close(0, GRACE_OVER)])])
        for grace in (2 ** 31 + 1, TOP):
            told = run(*before, stop(grace, now=5), told_call())
            self.assertEqual(told[3:], [(-1, []), counted(1, 1, 0, 1)])

    def test_ranges_of_time(self):
        self.assertEqual(run(begin(), stop(0, LAST_TIME), told_call())[1:], [(0, []), counted(ending=1, now=LAST_TIME)])
        for now in (LAST_TIME + 1, TOP):
            self.assertEqual(run(begin(), stop(0, now), told_call())[1:], [(-1, []), counted()])

    def test_without_rules(self):
        self.assertEqual(run(stop(5, now=9), told_call()), [(-4, []), counted(now=9)])
        self.assertEqual(run(stop(0), stop(0), begin(), arrives())[:], [(-4, []), (-4, []), (0, []), (0, [])])

    def test_out_of_range_comes_before_no_rules_and_ending(self):
        self.assertEqual(run(stop(2 ** 31 + 1), stop(0, TOP)), [(-1, []), (-1, [])])
        self.assertEqual(last(begin(), stop(5), stop(2 ** 31 + 1)), (-1, []))

    def test_ending_already(self):
        told = run(begin(), arrives(), asks(0, 1), stop(10), stop(50, now=5), due(), stop(0, now=9), tick(9), tick(10))
        self.assertEqual(told[3:], [
            (0, []), (-8, []), ([1, 10], []), (-8, []), (0, []), (0, [cancel(0, 1), close(0, GRACE_OVER)]),
        ])

    def test_ending_already_when_all_have_left(self):
        self.assertEqual(run(begin(), stop(0), stop(0), tick(9), stop(3, now=9))[2:], [(-8, []), (0, []), (-8, [])])

    def test_time_goes_on_first(self):
        told = last(begin(limit=10), arrives(), asks(0, 1), asks(0, 2, now=5), stop(7, now=10))
        self.assertEqual(told, (0, [cancel(0, 1), tell(0, 1, TOO_LATE), start(0, 2)]))

    def test_time_goes_on_first_and_who_is_quiet_then_leaves(self):
        told = last(begin(limit=10), arrives(), asks(0, 1), stop(7, now=10))
        self.assertEqual(told, (0, [cancel(0, 1), tell(0, 1, TOO_LATE), close(0, NOTHING_LEFT)]))

    def test_what_waits_stays(self):
        told = run(begin(), arrives(), asks(0, 1), asks(0, 2), stop(7), look(0))
        self.assertEqual(told[4:], [(0, []), looked(working=[1], waiting=[2])])


if __name__ == "__main__":
    unittest.main()
