import unittest

from tests.helper import (
    IDLE, LAST_TIME, TOO_LATE, TOP, answer, answers_call, arrives, asks, begin, cancel, close, drops, heard, last, leaves, look,
    looked, run, start, tell, weight,
)


class Weight(unittest.TestCase):
    def test_set(self):
        told = run(begin(), arrives(), look(0), weight(0, 5), look(0), weight(0, 2), look(0))
        self.assertEqual(told[2:], [looked(), (0, []), looked(weight=5), (0, []), looked(weight=2)])

    def test_ranges(self):
        for value in (1, 16):
            told = run(begin(), arrives(), weight(0, value, now=LAST_TIME), look(0))
            self.assertEqual(told[2:], [(0, []), looked(weight=value)])
        for value in (0, 17, TOP):
            told = run(begin(), arrives(), weight(0, 3), weight(0, value), look(0))
            self.assertEqual(told[3:], [(-1, []), looked(weight=3)])
        for now in (LAST_TIME + 1, TOP):
            self.assertEqual(run(begin(), arrives(), weight(0, 3, now), look(0))[2:], [(-1, []), looked()])

    def test_nobody_of_that_number(self):
        for who in (1, 63, 64, TOP):
            self.assertEqual(last(begin(), arrives(), weight(who, 2)), (-2, []))
        self.assertEqual(run(weight(0, 2)), [(-2, [])])
        self.assertEqual(last(begin(), arrives(), leaves(0), weight(0, 2)), (-2, []))

    def test_out_of_range_comes_before_nobody(self):
        self.assertEqual(run(weight(0, 0), weight(0, 17), weight(0, 1, TOP)), [(-1, [])] * 3)
        self.assertEqual(last(begin(), weight(7, 17)), (-1, []))

    def test_only_who_is_named(self):
        told = run(begin(), arrives(), arrives(), weight(1, 7), look(0), look(1))
        self.assertEqual(told[4:], [looked(), looked(weight=7)])

    def test_who_comes_anew_has_weight_one(self):
        self.assertEqual(last(begin(), arrives(), weight(0, 7), leaves(0), arrives(), look(0)), looked())

    def test_is_not_heard(self):
        told = run(begin(idle=10), arrives(), weight(0, 2, now=5), look(0), heard(9, now=9), weight(0, 3, now=10))
        self.assertEqual(told[2:], [(0, []), looked(weight=2), (-2, []), (-2, [close(0, IDLE)])])

    def test_time_goes_on_first(self):
        told = run(begin(limit=10), arrives(), asks(0, 1), asks(0, 2, now=5), weight(0, 2, now=10), look(0))
        self.assertEqual(told[4:], [
            (0, [cancel(0, 1), tell(0, 1, TOO_LATE), start(0, 2)]), looked(weight=2, heard_at=10, working=[2]),
        ])


class Turns(unittest.TestCase):
    def test_credit_is_a_thousand_times_the_weight(self):
        for value in (1, 2, 16):
            before = [begin(), arrives(), arrives(), weight(1, value), asks(0, 9), asks(1, 1, cost=65535), asks(0, 8)]
            # 1 gets credit twice until 0, behind it in the row, has its own and starts.
            told = run(*before, look(1), answers_call(0, 9), look(1))
            self.assertEqual(told[7:9], [
                looked(weight=value, waiting=[1]), (0, [answer(0, 9), start(0, 8)]),
            ])
            self.assertEqual(told[9], looked(weight=value, credit=2000 * value, waiting=[1]))

    def test_counts_from_the_next_turn_on(self):
        told = run(
            begin(), arrives(), arrives(), asks(0, 9), asks(1, 1, cost=65535), asks(0, 8), answers_call(0, 9), asks(0, 7),
            weight(1, 16), look(1), answers_call(0, 8), look(1),
        )
        self.assertEqual(told[9:], [
            looked(weight=16, credit=2000, waiting=[1]), (0, [answer(0, 8), start(0, 7)]),
            looked(weight=16, credit=34000, waiting=[1]),
        ])

    def test_twice_the_weight_twice_the_turns(self):
        before = [begin(), arrives(), arrives(), weight(1, 2), asks(0, 99)]
        before += [asks(0, k, cost=1000) for k in range(3)] + [asks(1, k, cost=1000) for k in range(6)]
        order = [(0, 0), (1, 0), (1, 1), (0, 1), (1, 2), (1, 3), (0, 2), (1, 4), (1, 5)]
        calls = [answers_call(0, 99)] + [answers_call(*pair) for pair in order[:-1]]
        told = run(*before, *calls)[len(before):]
        self.assertEqual([wants[1] for number, wants in told], [start(*pair) for pair in order])

    def test_one_round_of_the_greatest_weight(self):
        before = [begin(), arrives(), arrives(), weight(0, 16), asks(1, 9), asks(1, 1, cost=1000)]
        self.assertEqual(last(*before, asks(0, 1, cost=16000), answers_call(1, 9)), (0, [answer(1, 9), start(1, 1)]))
        before = [begin(), arrives(), arrives(), weight(0, 16), asks(1, 9)]
        told = last(*before, asks(0, 1, cost=16000), asks(1, 1, cost=1000), answers_call(1, 9))
        self.assertEqual(told, (0, [answer(1, 9), start(0, 1)]))
        told = last(*before, asks(0, 1, cost=16001), asks(1, 1, cost=1000), answers_call(1, 9))
        self.assertEqual(told, (0, [answer(1, 9), start(1, 1)]))

    def test_keeps_credit_and_place(self):
        before = [begin(), arrives(), arrives(), asks(0, 9), asks(1, 1, cost=1500), asks(0, 8), answers_call(0, 9)]
        told = run(*before, weight(1, 9), look(1), asks(0, 7), answers_call(0, 8), drops(1, 1))
        self.assertEqual(told[8], looked(weight=9, credit=2000, waiting=[1]))
        self.assertEqual(told[10], (0, [answer(0, 8), start(1, 1)]))


if __name__ == "__main__":
    unittest.main()
