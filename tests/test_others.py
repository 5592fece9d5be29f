"""answers, drops, leaves, heard."""

import unittest

from tests.helper import (
    IDLE, LAST_TIME, TOP, answer, answers_call, arrives, asks, begin, cancel, close, drops, heard, last, leaves, numbers,
    run, start,
)


class Answers(unittest.TestCase):
    def test_answer_then_the_next_start(self):
        told = run(begin(), arrives(), asks(0, 1), asks(0, 2, data=[9]), answers_call(0, 1, data=[1, 2]))
        self.assertEqual(told[4], (0, [answer(0, 1, [1, 2]), start(0, 2, [9])]))

    def test_no_bytes(self):
        self.assertEqual(last(begin(), arrives(), asks(0, 1, data=[5]), answers_call(0, 1)), (0, [answer(0, 1)]))

    def test_any_of_those_worked_at(self):
        told = run(begin(work=3), arrives(), asks(0, 1), asks(0, 2), asks(0, 3), answers_call(0, 2), leaves(0))
        self.assertEqual(told[5:], [(0, [answer(0, 2)]), (2, [cancel(0, 1), cancel(0, 3)])])

    def test_not_worked_at(self):
        told = run(begin(), arrives(), asks(0, 1), asks(0, 2), *[answers_call(0, k) for k in (2, 3, 2 ** 32, TOP)])
        self.assertEqual(told[4:], [(-5, [])] * 4)

    def test_another_has_it(self):
        told = numbers(begin(), arrives(), arrives(), asks(0, 1), answers_call(1, 1), answers_call(0, 1))
        self.assertEqual(told[3:], [0, -5, 0])

    def test_once_only(self):
        told = numbers(begin(), arrives(), asks(0, 1), answers_call(0, 1), answers_call(0, 1))
        self.assertEqual(told[2:], [0, 0, -5])

    def test_not_after_a_drop(self):
        self.assertEqual(last(begin(), arrives(), asks(0, 1), drops(0, 1), answers_call(0, 1)), (-5, []))

    def test_nobody_of_that_number(self):
        self.assertEqual(run(answers_call(0, 1)), [(-2, [])])
        for who in (1, 64, TOP):
            self.assertEqual(last(begin(), arrives(), asks(0, 1), answers_call(who, 1)), (-2, []))

    def test_ranges(self):
        self.assertEqual(last(begin(), arrives(), asks(0, 1), answers_call(0, 1, now=LAST_TIME)), (0, [answer(0, 1)]))
        self.assertEqual(last(begin(), arrives(), asks(0, 1), answers_call(0, 1, now=LAST_TIME + 1)), (-1, []))
        self.assertEqual(last(answers_call(0, 1, now=LAST_TIME + 1)), (-1, []))

    def test_heard(self):
        told = run(begin(idle=10), arrives(), asks(0, 1), answers_call(0, 1, now=5), heard(9, now=14), heard(9, now=15))
        self.assertEqual(told[4:], [(-2, []), (-2, [close(0, IDLE)])])

    def test_not_heard_when_refused(self):
        told = run(begin(idle=10), arrives(), answers_call(0, 1, now=5), heard(9, now=10))
        self.assertEqual(told[2:], [(-5, []), (-2, [close(0, IDLE)])])


class Drops(unittest.TestCase):
    def test_worked_at(self):
        told = run(begin(), arrives(), asks(0, 1), asks(0, 2), drops(0, 1))
        self.assertEqual(told[4], (1, [cancel(0, 1), start(0, 2)]))

    def test_waiting(self):
        told = run(begin(), arrives(), asks(0, 1), asks(0, 2), asks(0, 3), drops(0, 2), answers_call(0, 1))
        self.assertEqual(told[5:], [(0, []), (0, [answer(0, 1), start(0, 3)])])

    def test_neither(self):
        told = run(begin(), arrives(), arrives(), asks(0, 1), *[drops(0, k) for k in (2, 2 ** 32, TOP)], drops(1, 1))
        self.assertEqual(told[4:], [(-5, [])] * 4)

    def test_once_only(self):
        told = numbers(begin(), arrives(), asks(0, 1), asks(0, 2), drops(0, 2), drops(0, 2), drops(0, 1), drops(0, 1))
        self.assertEqual(told[2:], [0, 0, 0, -5, 1, -5])

    def test_nobody_of_that_number(self):
        self.assertEqual(run(drops(0, 1)), [(-2, [])])
        for who in (1, 64, TOP):
            self.assertEqual(last(begin(), arrives(), asks(0, 1), drops(who, 1)), (-2, []))

    def test_ranges(self):
        self.assertEqual(last(begin(), arrives(), asks(0, 1), drops(0, 1, now=LAST_TIME)), (1, [cancel(0, 1)]))
        self.assertEqual(last(begin(), arrives(), asks(0, 1), drops(0, 1, now=LAST_TIME + 1)), (-1, []))
        self.assertEqual(last(drops(0, 1, now=TOP)), (-1, []))

    def test_heard(self):
        told = run(begin(idle=10), arrives(), asks(0, 1), drops(0, 1, now=5), heard(9, now=14), heard(9, now=15))
        self.assertEqual(told[4:], [(-2, []), (-2, [close(0, IDLE)])])

    def test_heard_when_it_waited(self):
        told = run(
            begin(idle=10), arrives(), arrives(), asks(0, 1), asks(1, 1), drops(1, 1, now=5),
            heard(9, now=14), heard(9, now=15),
        )
        self.assertEqual(told[5:], [(0, []), (-2, []), (-2, [close(1, IDLE)])])

    def test_not_heard_when_refused(self):
        told = run(begin(idle=10), arrives(), drops(0, 1, now=5), heard(9, now=10))
        self.assertEqual(told[2:], [(-5, []), (-2, [close(0, IDLE)])])


class Leaves(unittest.TestCase):
    def test_without_requests(self):
        self.assertEqual(last(begin(), arrives(), leaves(0)), (0, []))

    def test_cancels_in_order_and_counts_all(self):
        told = run(begin(work=2), arrives(), asks(0, 8), asks(0, 3), asks(0, 5), leaves(0), leaves(0))
        self.assertEqual(told[5:], [(3, [cancel(0, 8), cancel(0, 3)]), (-2, [])])

    def test_hands_go_to_the_others(self):
        told = run(begin(work=2), arrives(), arrives(), asks(0, 1), asks(0, 2), asks(0, 3), asks(1, 4), asks(1, 5), leaves(0))
        self.assertEqual(told[8], (3, [cancel(0, 1), cancel(0, 2), start(1, 4), start(1, 5)]))

    def test_gone_from_the_row(self):
        told = run(begin(), arrives(), arrives(), asks(0, 1), asks(1, 2), leaves(1), arrives(), answers_call(0, 1), asks(1, 3))
        self.assertEqual(told[5:], [(1, []), (1, []), (0, [answer(0, 1)]), (0, [start(1, 3)])])

    def test_nobody_of_that_number(self):
        self.assertEqual(run(leaves(0)), [(-2, [])])
        for who in (1, 64, TOP):
            self.assertEqual(last(begin(), arrives(), leaves(who)), (-2, []))

    def test_ranges(self):
        self.assertEqual(last(begin(), arrives(), leaves(0, now=LAST_TIME)), (0, []))
        self.assertEqual(numbers(begin(), arrives(), leaves(0, now=LAST_TIME + 1), leaves(0))[2:], [-1, 0])


class Heard(unittest.TestCase):
    def test_heard(self):
        told = run(begin(idle=10), arrives(), heard(0, now=9), heard(0, now=18), heard(9, now=27), heard(0, now=28))
        self.assertEqual(told[2:], [(0, []), (0, []), (-2, []), (-2, [close(0, IDLE)])])

    def test_only_who_is_heard(self):
        told = run(begin(idle=10), arrives(), arrives(), heard(1, now=9), heard(1, now=10))
        self.assertEqual(told[3:], [(0, []), (0, [close(0, IDLE)])])

    def test_nobody_of_that_number(self):
        self.assertEqual(run(heard(0)), [(-2, [])])
        for who in (1, 64, TOP):
            self.assertEqual(last(begin(), arrives(), heard(who)), (-2, []))

    def test_ranges(self):
        self.assertEqual(last(begin(), arrives(), heard(0, now=LAST_TIME)), (0, []))
        self.assertEqual(last(begin(), arrives(), heard(0, now=LAST_TIME + 1)), (-1, []))
        self.assertEqual(last(heard(0, now=TOP)), (-1, []))


if __name__ == "__main__":
    unittest.main()
