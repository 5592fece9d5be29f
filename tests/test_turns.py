import unittest

from tests.helper import TOO_LATE, answer, answers_call, arrives, asks, begin, cancel, drops, heard, leaves, run, start, tell


def started(*calls):
    """Who is started, in order, over all calls."""
    return [want[1:3] for number, wants in run(*calls) for want in wants if want[0] == "start"]


class Turns(unittest.TestCase):
    def test_in_order_for_one(self):
        calls = [begin(), arrives()] + [asks(0, k) for k in (5, 3, 9)] + [answers_call(0, 5), answers_call(0, 3)]
        self.assertEqual(started(*calls), [(0, 5), (0, 3), (0, 9)])

    def test_credit_that_is_just_the_cost_is_enough(self):
        told = run(
            begin(), arrives(), arrives(), asks(0, 100), asks(0, 1, cost=1500), asks(0, 2, cost=500), asks(1, 1, cost=1000),
            answers_call(0, 100), answers_call(1, 1), answers_call(0, 1),
        )
        self.assertEqual(told[7:], [
            (0, [answer(0, 100), start(1, 1)]), (0, [answer(1, 1), start(0, 1)]), (0, [answer(0, 1), start(0, 2)]),
        ])

    def test_a_cost_above_a_thousand_takes_another_round(self):
        calls = [
            begin(), arrives(), arrives(), asks(0, 100), asks(0, 1, cost=1001), asks(1, 1, cost=1000),
            answers_call(0, 100), answers_call(1, 1),
        ]
        self.assertEqual(started(*calls), [(0, 100), (1, 1), (0, 1)])

    def test_stays_ahead_while_its_credit_is_enough(self):
        calls = [begin(), arrives(), arrives(), asks(0, 100)]
        calls += [asks(0, k, cost=300) for k in (1, 2, 3, 4)] + [asks(1, 9, cost=300)]
        calls += [answers_call(0, k) for k in (100, 1, 2, 3)] + [answers_call(1, 9)]
        self.assertEqual(started(*calls), [(0, 100), (0, 1), (0, 2), (0, 3), (1, 9), (0, 4)])

    def test_turns_by_cost_not_by_number(self):
        calls = [begin(work=1), arrives(), arrives(), asks(0, 100)]
        calls += [asks(0, k, cost=1000) for k in range(4)] + [asks(1, k, cost=250) for k in range(8)]
        order = [(0, 0)] + [(1, k) for k in range(4)] + [(0, 1)] + [(1, k) for k in range(4, 8)] + [(0, 2), (0, 3)]
        calls += [answers_call(0, 100)] + [answers_call(*pair) for pair in order[:-1]]
        self.assertEqual(started(*calls), [(0, 100)] + order)

    def test_row_is_in_the_order_of_coming(self):
        calls = [begin(), arrives(), arrives(), arrives(), asks(0, 1), asks(2, 1), asks(1, 1), asks(0, 2), asks(2, 2)]
        calls += [answers_call(0, 1), answers_call(2, 1), answers_call(2, 2), answers_call(1, 1)]
        self.assertEqual(started(*calls), [(0, 1), (2, 1), (2, 2), (1, 1), (0, 2)])

    def test_credit_is_gone_when_nothing_waits_any_more(self):
        calls = [begin(), arrives(), arrives(), asks(0, 1), asks(1, 1, cost=900), asks(0, 2, cost=900)]
        self.assertEqual(started(*calls, answers_call(0, 1)), [(0, 1), (1, 1)])

    def credit_left(self, rules, now):
        # 1 has a credit of 2000 and one request that waits; 2 has the hand.
        return [
            begin(**rules), arrives(), arrives(), arrives(), asks(0, 9, now=0), asks(1, 1, cost=1500, now=0),
            asks(2, 1, cost=500, now=now), answers_call(0, 9, now=now),
        ]

    def test_credit_is_kept_while_something_waits(self):
        calls = self.credit_left({}, 0) + [asks(2, 2, cost=400), asks(1, 2, cost=400), answers_call(2, 1)]
        self.assertEqual(started(*calls), [(0, 9), (2, 1), (1, 1)])
        calls = calls[:-1] + [drops(1, 1), answers_call(2, 1)]
        self.assertEqual(started(*calls), [(0, 9), (2, 1), (1, 2)])

    def test_credit_is_gone_after_a_drop(self):
        calls = self.credit_left({}, 0) + [drops(1, 1), asks(2, 2, cost=900), asks(1, 2, cost=900), answers_call(2, 1)]
        self.assertEqual(started(*calls), [(0, 9), (2, 1), (2, 2)])

    def test_credit_is_just_nothing_after_a_drop(self):
        before = self.credit_left({}, 0) + [drops(1, 1)]
        calls = before + [asks(1, 2, cost=1000), asks(2, 2, cost=1000), answers_call(2, 1)]
        self.assertEqual(started(*calls), [(0, 9), (2, 1), (1, 2)])
        calls = before + [asks(1, 2, cost=1001), asks(2, 2, cost=1000), answers_call(2, 1)]
        self.assertEqual(started(*calls), [(0, 9), (2, 1), (2, 2)])

    def test_credit_and_place_are_gone_when_too_late(self):
        calls = self.credit_left({"limit": 10}, 5)
        calls += [asks(2, 2, cost=900, now=10), asks(1, 2, cost=900, now=10), answers_call(2, 1, now=10)]
        told = run(*calls)
        self.assertEqual(told[8][1], [tell(1, 1, TOO_LATE)])
        self.assertEqual(told[10], (0, [answer(2, 1), start(2, 2)]))

    def test_place_is_gone_after_a_drop(self):
        calls = [
            begin(), arrives(), arrives(), arrives(), asks(0, 1), asks(1, 1), asks(2, 1), drops(1, 1), asks(1, 2),
            answers_call(0, 1),
        ]
        self.assertEqual(started(*calls), [(0, 1), (2, 1)])

    def test_place_is_kept_after_a_drop_that_leaves_something(self):
        calls = [
            begin(), arrives(), arrives(), arrives(), asks(0, 1), asks(1, 1), asks(1, 2), asks(2, 1), drops(1, 1),
            answers_call(0, 1),
        ]
        self.assertEqual(started(*calls), [(0, 1), (1, 2)])

    def test_all_free_hands_are_given(self):
        told = run(
            begin(work=3), arrives(), arrives(), *[asks(0, k) for k in range(3)], *[asks(1, k) for k in range(4)], leaves(0),
        )
        self.assertEqual(told[-1], (3, [cancel(0, 0), cancel(0, 1), cancel(0, 2)] + [start(1, k) for k in range(3)]))

    def test_a_refused_call_starts_nothing(self):
        told = run(begin(), arrives(), asks(0, 1), asks(0, 2), asks(0, 3, cost=0), heard(5), asks(0, 2), drops(0, 9))
        self.assertEqual(told[4:], [(-1, []), (-2, []), (-3, []), (-5, [])])

    def test_dearest_requests_of_all(self):
        calls = [begin()] + [arrives() for k in range(64)] + [asks(0, 99)]
        calls += [asks(k, 1, cost=65535) for k in range(64)] + [answers_call(0, 99)]
        calls += [answers_call(k, 1) for k in range(63)]
        self.assertEqual(started(*calls), [(0, 99)] + [(k, 1) for k in range(64)])


if __name__ == "__main__":
    unittest.main()
