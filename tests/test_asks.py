import unittest

from fairdoor.acts import arrive, ask, begin as begin_act
from fairdoor.rules import Rules
from fairdoor.server import Server
from tests.helper import (
    IDLE, LAST_TIME, TOO_LATE, TOO_MANY, TOO_OFTEN, TOP, answer, answers_call, arrives, asks, begin, cancel, close,
    drops, heard, last, leaves, look, looked, numbers, run, start, tell,
)


class Asks(unittest.TestCase):
    def test_started_at_once_with_its_bytes(self):
        self.assertEqual(last(begin(), arrives(), asks(0, 5, data=[0, 255, 7])), (0, [start(0, 5, [0, 255, 7])]))
        self.assertEqual(last(begin(), arrives(), asks(0, 5)), (0, [start(0, 5)]))

    def test_waits_while_no_hand_is_free(self):
        told = run(begin(work=2), arrives(), asks(0, 1), asks(0, 2), asks(0, 3), asks(0, 4))
        self.assertEqual(told[2:], [(0, [start(0, 1)]), (0, [start(0, 2)]), (0, []), (0, [])])

    def test_ranges(self):
        for request, cost, now in ((0, 1, 0), (2 ** 32 - 1, 1, 0), (0, 65535, 0), (0, 1, LAST_TIME)):
            told = last(begin(), arrives(), asks(0, request, cost, now))
            self.assertEqual(told, (0, [start(0, request)]))
        for request, cost, now in (
            (2 ** 32, 1, 0), (TOP, 1, 0), (0, 0, 0), (0, 65536, 0), (0, TOP, 0), (0, 1, LAST_TIME + 1), (0, 1, TOP),
        ):
            self.assertEqual(last(begin(), arrives(), asks(0, request, cost, now)), (-1, []))

    def test_most_bytes(self):
        server = Server()
        begin_act(server, Rules(1, 1, 1, 0, 0, 0, 0, 1), 0)
        arrive(server, 0, 0)
        self.assertEqual(ask(server, 0, 1, 1, 0, [0] * 65537), -1)
        self.assertEqual(ask(server, 0, 1, 1, 0, [0] * 65536), 0)

    def test_nobody_of_that_number(self):
        for who in (1, 63, 64, TOP):
            self.assertEqual(last(begin(), arrives(), asks(who, 1)), (-2, []))
        self.assertEqual(run(asks(0, 1)), [(-2, [])])
        self.assertEqual(last(begin(), arrives(), leaves(0), asks(0, 1)), (-2, []))

    def test_out_of_range_comes_before_nobody(self):
        self.assertEqual(run(asks(0, 1, cost=0)), [(-1, [])])
        self.assertEqual(last(begin(), asks(0, 2 ** 32)), (-1, []))

    def test_nobody_comes_before_a_number_used_already(self):
        told = run(begin(idle=10, limit=10), arrives(), asks(0, 1), heard(0, now=10), asks(0, 1, now=20))
        self.assertEqual(told[4], (-2, [close(0, IDLE)]))

    def test_number_that_is_worked_at_or_waits(self):
        told = run(begin(), arrives(), asks(0, 1), asks(0, 2), asks(0, 1), asks(0, 2))
        self.assertEqual(told[4:], [(-3, []), (-3, [])])

    def test_number_used_already_comes_before_the_rate(self):
        told = numbers(begin(rate=1), arrives(), asks(0, 1), asks(0, 1), asks(0, 2))
        self.assertEqual(told[2:], [0, -3, 2])

    def test_number_used_already_comes_before_too_many(self):
        self.assertEqual(numbers(begin(wait=0), arrives(), asks(0, 1), asks(0, 1), asks(0, 2))[2:], [0, -3, 1])

    def test_number_used_already_is_not_heard(self):
        told = run(begin(), arrives(), asks(0, 1, now=3), asks(0, 1, now=8), look(0))
        self.assertEqual(told[3:], [(-3, []), looked(heard_at=3, working=[1])])

    def test_number_used_again_when_it_is_done(self):
        told = run(begin(), arrives(), asks(0, 1), answers_call(0, 1), asks(0, 1), drops(0, 1), asks(0, 1))
        self.assertEqual([told[2], told[4], told[6]], [(0, [start(0, 1)])] * 3)

    def test_number_used_again_when_it_was_too_late(self):
        told = last(begin(limit=10), arrives(), asks(0, 1), asks(0, 1, now=10, data=[4]))
        self.assertEqual(told, (0, [cancel(0, 1), tell(0, 1, TOO_LATE), start(0, 1, [4])]))

    def test_number_used_again_when_it_was_told_off(self):
        told = numbers(begin(wait=0), arrives(), asks(0, 1), asks(0, 2), answers_call(0, 1), asks(0, 2))
        self.assertEqual(told[2:], [0, 1, 0, 0])

    def test_same_number_of_another(self):
        told = run(begin(work=2), arrives(), arrives(), asks(0, 1, data=[1]), asks(1, 1, data=[2]))
        self.assertEqual(told[3:], [(0, [start(0, 1, [1])]), (0, [start(1, 1, [2])])])

    def test_heard_when_taken_or_told_off(self):
        told = run(
            begin(idle=10, rate=1), arrives(), asks(0, 1), answers_call(0, 1), asks(0, 2, now=5),
            heard(9, now=14), heard(9, now=15),
        )
        self.assertEqual(told[4:], [(2, [tell(0, 2, TOO_OFTEN)]), (-2, []), (-2, [close(0, IDLE)])])


class TooMany(unittest.TestCase):
    def test_last_that_waits(self):
        told = run(begin(wait=2), arrives(), asks(0, 1), asks(0, 2), asks(0, 3), asks(0, 4))
        self.assertEqual(told[4:], [(0, []), (1, [tell(0, 4, TOO_MANY)])])

    def test_sixty_four_wait(self):
        told = numbers(begin(wait=64), arrives(), *[asks(0, k) for k in range(66)])
        self.assertEqual(told[2:], [0] * 65 + [1])

    def test_none_may_wait_but_a_hand_is_free(self):
        told = run(begin(wait=0, work=2), arrives(), asks(0, 1), asks(0, 2, cost=65535), asks(0, 3))
        self.assertEqual(told[2:], [(0, [start(0, 1)]), (0, [start(0, 2)]), (1, [tell(0, 3, TOO_MANY)])])

    def test_none_may_wait_and_another_has_the_hand(self):
        told = numbers(begin(wait=0), arrives(), arrives(), asks(0, 1), asks(1, 1), answers_call(0, 1), asks(1, 1))
        self.assertEqual(told[3:], [0, 1, 0, 0])

    def test_each_has_its_own_places(self):
        told = numbers(begin(wait=1), arrives(), arrives(), asks(0, 1), asks(0, 2), asks(1, 1), asks(1, 2), asks(0, 3))
        self.assertEqual(told[3:], [0, 0, 0, 1, 1])

    def test_place_is_free_again(self):
        told = numbers(begin(wait=1), arrives(), asks(0, 1), asks(0, 2), asks(0, 3), drops(0, 2), asks(0, 3), asks(0, 4))
        self.assertEqual(told[2:], [0, 0, 1, 0, 0, 1])


class TooOften(unittest.TestCase):
    def test_no_rate_is_as_often_as_one_likes(self):
        self.assertEqual(numbers(begin(burst=1), arrives(), *[asks(0, k) for k in range(20)])[2:], [0] * 20)

    def test_told(self):
        told = run(begin(rate=1), arrives(), asks(0, 1), asks(0, 2))
        self.assertEqual(told[2:], [(0, [start(0, 1)]), (2, [tell(0, 2, TOO_OFTEN)])])

    def test_a_thousand_thousandths(self):
        told = numbers(begin(rate=1), arrives(), asks(0, 1), asks(0, 2, now=999), asks(0, 2, now=1000), asks(0, 3, now=1000))
        self.assertEqual(told[2:], [0, 2, 0, 2])

    def test_rate_is_for_each_millisecond(self):
        times = (0, 0, 0, 3, 4, 6, 7)
        told = numbers(begin(rate=300, burst=2), arrives(), *[asks(0, k, now=times[k]) for k in range(len(times))])
        self.assertEqual(told[2:], [0, 0, 2, 2, 0, 2, 0])

    def test_what_is_above_burst_is_lost(self):
        told = numbers(begin(rate=300), arrives(), asks(0, 1), asks(0, 2, now=4), asks(0, 3, now=7), asks(0, 4, now=8))
        self.assertEqual(told[2:], [0, 0, 2, 0])

    def test_largest_rate(self):
        told = numbers(begin(rate=1000000, burst=1000), arrives(), *[asks(0, k, now=k) for k in range(30)])
        self.assertEqual(told[2:], [0] * 30)

    def test_no_more_than_burst(self):
        told = numbers(begin(rate=1000, burst=2), arrives(), *[asks(0, k, now=10 ** 6) for k in range(3)])
        self.assertEqual(told[2:], [0, 0, 2])

    def test_just_burst_and_nothing_over(self):
        times = (10 ** 6, 10 ** 6, 10 ** 6 + 999, 10 ** 6 + 1000)
        told = numbers(begin(rate=1, burst=2), arrives(), *[asks(0, k, now=times[k]) for k in range(4)])
        self.assertEqual(told[2:], [0, 0, 2, 0])

    def test_counted_from_the_arrival(self):
        told = numbers(begin(rate=1, burst=2), arrives(now=500), asks(0, 1, now=500), asks(0, 2, now=500),
                       asks(0, 3, now=1499), asks(0, 3, now=1500))
        self.assertEqual(told[2:], [0, 0, 2, 0])

    def test_comes_before_too_many(self):
        told = numbers(begin(rate=1, wait=0), arrives(), asks(0, 1), asks(0, 2))
        self.assertEqual(told[2:], [0, 2])

    def test_too_many_takes_no_chance(self):
        told = numbers(begin(rate=1, burst=2, wait=0), arrives(), asks(0, 1), asks(0, 2), answers_call(0, 1), asks(0, 3),
                       answers_call(0, 3), asks(0, 4))
        self.assertEqual(told[2:], [0, 1, 0, 0, 0, 2])

    def test_each_has_its_own_chances(self):
        self.assertEqual(numbers(begin(rate=1), arrives(), arrives(), asks(0, 1), asks(1, 1), asks(0, 2))[3:], [0, 0, 2])


class AnswerAndAsk(unittest.TestCase):
    def test_each_its_own_answer(self):
        told = run(
            begin(work=2), arrives(), arrives(), asks(0, 1), asks(1, 1),
            answers_call(1, 1, data=[11]), answers_call(0, 1, data=[10]),
        )
        self.assertEqual(told[5:], [(0, [answer(1, 1, [11])]), (0, [answer(0, 1, [10])])])


if __name__ == "__main__":
    unittest.main()
