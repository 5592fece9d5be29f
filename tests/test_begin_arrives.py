import unittest

from tests.helper import (
    IDLE, LAST_TIME, TOO_MANY, TOP, answers_call, arrives, asks, begin, close, counted, due, heard, last, leaves, look, looked,
    numbers, run, start, stop, tell, told_call, weight,
)


class Begin(unittest.TestCase):
    def test_ends_of_each_range(self):
        ends = {
            "most": (1, 64), "each": (1, 64), "work": (1, 1024), "wait": (0, 64), "idle": (0, 2 ** 31),
            "limit": (0, 2 ** 31), "rate": (0, 1000000), "burst": (1, 1000), "now": (0, LAST_TIME),
        }
        for name, (least, most) in ends.items():
            for value in (least, most):
                self.assertEqual(run(begin(**{name: value})), [(0, [])], (name, value))
            for value in (least - 1, most + 1, TOP):
                if value >= 0:
                    self.assertEqual(run(begin(**{name: value})), [(-1, [])], (name, value))

    def test_refused_rules_are_no_rules(self):
        self.assertEqual(numbers(begin(most=65), arrives()), [-1, -4])

    def test_refused_begin_leaves_all_as_it_was(self):
        told = run(begin(idle=10), arrives(), begin(burst=0, now=50), heard(0, now=5), heard(0, now=14), arrives())
        self.assertEqual(told, [(0, []), (0, []), (-1, []), (0, []), (0, []), (1, [])])

    def test_nobody_is_in_and_nothing_is_left(self):
        told = run(begin(), arrives(), asks(0, 1), asks(0, 2), begin(), heard(0), arrives(), asks(0, 2))
        self.assertEqual(told[4:], [(0, []), (-2, []), (0, []), (0, [start(0, 2)])])

    def test_new_rules_hold(self):
        told = numbers(begin(most=2), arrives(), arrives(), begin(most=1), arrives(), arrives())
        self.assertEqual(told, [0, 0, 1, 0, 0, -6])

    def test_time_stands_anew_and_does_not_go_on(self):
        told = run(begin(idle=10), arrives(), begin(idle=10, now=100))
        self.assertEqual(told[2], (0, []))

    def test_time_may_begin_earlier_than_it_was(self):
        told = run(begin(now=1000), begin(idle=10, now=5), arrives(now=3), heard(0, now=14), heard(0, now=24))
        self.assertEqual(told[3:], [(0, []), (-2, [close(0, IDLE)])])

    def test_nothing_is_counted(self):
        told = run(
            begin(wait=0), arrives(), asks(0, 1), asks(0, 2), answers_call(0, 1, now=7), told_call(), begin(now=3), told_call(),
        )
        self.assertEqual(told[3], (1, [tell(0, 2, TOO_MANY)]))
        self.assertEqual(told[5], counted(inside=1, taken=1, answered=1, told_off=1, now=7))
        self.assertEqual(told[6:], [(0, []), counted(now=3)])

    def test_not_ending_behind_a_stop(self):
        before = [begin(), arrives(), asks(0, 1), stop(50, now=5)]
        told = run(*before, begin(now=1), told_call(), due(), arrives(now=60), asks(0, 1, now=60), stop(0, now=60))
        self.assertEqual(told[4:7], [(0, []), counted(now=1), ([0], [])])
        self.assertEqual(told[7:9], [(0, []), (0, [start(0, 1)])])
        self.assertEqual(told[9][0], 0)

    def test_refused_begin_behind_a_stop_leaves_it_ending(self):
        told = run(begin(), arrives(), asks(0, 1), stop(50), begin(work=0), arrives(), told_call(), due())
        self.assertEqual(told[4:], [(-1, []), (-8, []), counted(1, 1, 0, 1, 0, 0, 1, 0), ([1, 50], [])])

    def test_nothing_is_kept_of_who_was_in(self):
        told = run(begin(), arrives(5), weight(0, 9), asks(0, 1), begin(now=4), look(0), arrives(6, now=4), look(0))
        self.assertEqual(told[5:], [([-2], []), (0, []), looked(address=6, heard_at=4)])


class Arrives(unittest.TestCase):
    def test_without_rules(self):
        self.assertEqual(run(arrives()), [(-4, [])])

    def test_ranges(self):
        self.assertEqual(last(begin(), arrives(2 ** 32 - 1)), (0, []))
        self.assertEqual(last(begin(), arrives(2 ** 32)), (-1, []))
        self.assertEqual(last(begin(), arrives(TOP)), (-1, []))
        self.assertEqual(last(begin(), arrives(now=LAST_TIME)), (0, []))
        self.assertEqual(last(begin(), arrives(now=LAST_TIME + 1)), (-1, []))

    def test_out_of_range_comes_before_no_rules(self):
        self.assertEqual(run(arrives(2 ** 32)), [(-1, [])])

    def test_least_number_that_nobody_has(self):
        told = numbers(begin(), arrives(), arrives(), arrives(), leaves(1), arrives(), arrives(), leaves(0), arrives())
        self.assertEqual(told, [0, 0, 1, 2, 0, 1, 3, 0, 0])

    def test_as_many_as_may_be_in(self):
        self.assertEqual(numbers(begin(most=64), *[arrives(k) for k in range(65)])[1:], list(range(64)) + [-6])
        self.assertEqual(numbers(begin(most=1), arrives(), arrives(), leaves(0), arrives()), [0, 0, -6, 0, 0])

    def test_as_many_as_may_be_from_one_address(self):
        told = numbers(begin(each=2), arrives(7), arrives(7), arrives(7), arrives(8), leaves(0), arrives(7), arrives(7))
        self.assertEqual(told, [0, 0, 1, -7, 2, 0, 0, -7])

    def test_full_comes_before_the_address(self):
        self.assertEqual(numbers(begin(most=2, each=1), arrives(7), arrives(7), arrives(8), arrives(7)), [0, 0, -7, 1, -6])

    def test_ending_comes_before_full_and_the_address(self):
        told = numbers(begin(most=1), arrives(), asks(0, 1), arrives(), stop(100), arrives())
        self.assertEqual(told[3:], [-6, 0, -8])
        told = numbers(begin(most=2, each=1), arrives(7), asks(0, 1), arrives(7), stop(100), arrives(7))
        self.assertEqual(told[3:], [-7, 0, -8])

    def test_first_values(self):
        self.assertEqual(last(begin(), arrives(2 ** 32 - 1, now=8), look(0)), looked(address=2 ** 32 - 1, heard_at=8))

    def test_time_goes_on_before_the_refusals(self):
        told = run(begin(most=1, idle=10), arrives(), arrives(now=9), arrives(now=10))
        self.assertEqual(told[2:], [(-6, []), (0, [close(0, IDLE)])])

    def test_time_goes_on_with_a_refusal(self):
        told = run(begin(each=1, idle=10), arrives(7), arrives(8, now=5), arrives(8, now=10), heard(0))
        self.assertEqual(told[3:], [(-7, [close(0, IDLE)]), (-2, [])])

    def test_heard_when_it_arrives(self):
        told = run(begin(idle=10), arrives(now=3), heard(5, now=12), heard(5, now=13))
        self.assertEqual(told[2:], [(-2, []), (-2, [close(0, IDLE)])])

    def test_may_ask_burst_times(self):
        told = numbers(begin(rate=1, burst=3), arrives(), *[asks(0, k) for k in range(4)])
        self.assertEqual(told[2:], [0, 0, 0, 2])

    def test_who_comes_anew_begins_anew(self):
        told = numbers(begin(rate=1), arrives(), asks(0, 1), asks(0, 2), leaves(0), arrives(), asks(0, 1))
        self.assertEqual(told[2:], [0, 2, 1, 0, 0])


if __name__ == "__main__":
    unittest.main()
