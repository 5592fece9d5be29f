import unittest

from tests.helper import (
    IDLE, LAST_TIME, TOO_LATE, answer, answers_call, arrives, asks, begin, cancel, close, counted, drops, heard, last,
    leaves, run, start, stop, tell, tick, told_call, weight,
)


class TooLate(unittest.TestCase):
    def test_exactly_as_late_as_the_rules_say(self):
        told = run(begin(limit=10), arrives(), asks(0, 1), heard(0, now=9), heard(0, now=10))
        self.assertEqual(told[3:], [(0, []), (0, [cancel(0, 1), tell(0, 1, TOO_LATE)])])

    def test_no_limit(self):
        self.assertEqual(last(begin(), arrives(), asks(0, 1), heard(0, now=LAST_TIME)), (0, []))

    def test_by_numbers_and_in_order(self):
        told = last(
            begin(work=3, limit=10), arrives(), arrives(), asks(1, 5), asks(1, 4), asks(0, 7), asks(1, 3), asks(1, 2),
            asks(0, 8), heard(0, now=10),
        )
        self.assertEqual(told, (0, [
            cancel(0, 7), tell(0, 7, TOO_LATE), tell(0, 8, TOO_LATE),
            cancel(1, 5), tell(1, 5, TOO_LATE), cancel(1, 4), tell(1, 4, TOO_LATE), tell(1, 3, TOO_LATE), tell(1, 2, TOO_LATE),
        ]))

    def test_only_what_is_late(self):
        told = run(
            begin(work=2, limit=10), arrives(), asks(0, 1), asks(0, 2, now=1), asks(0, 3, now=2), asks(0, 4, now=3),
            heard(0, now=10), heard(0, now=11), heard(0, now=19), heard(0, now=20), heard(0, now=21),
        )
        self.assertEqual(told[6:], [
            (0, [cancel(0, 1), tell(0, 1, TOO_LATE), start(0, 3)]),
            (0, [cancel(0, 2), tell(0, 2, TOO_LATE), start(0, 4)]),
            (0, []),
            (0, [cancel(0, 3), tell(0, 3, TOO_LATE)]),
            (0, [cancel(0, 4), tell(0, 4, TOO_LATE)]),
        ])

    def test_worked_at_counts_from_its_start(self):
        told = run(
            begin(limit=10), arrives(), asks(0, 1), asks(0, 2, now=3), answers_call(0, 1, now=8), heard(0, now=13),
            heard(0, now=17), heard(0, now=18),
        )
        self.assertEqual(told[4:], [
            (0, [answer(0, 1), start(0, 2)]), (0, []), (0, []), (0, [cancel(0, 2), tell(0, 2, TOO_LATE)]),
        ])

    def test_waiting_too_long(self):
        told = run(begin(limit=10), arrives(), asks(0, 1), asks(0, 2), answers_call(0, 1, now=10))
        self.assertEqual(told[4], (-5, [cancel(0, 1), tell(0, 1, TOO_LATE), tell(0, 2, TOO_LATE)]))

    def test_gone_and_never_answered(self):
        told = run(begin(limit=10), arrives(), asks(0, 1), heard(0, now=10), answers_call(0, 1, now=10), drops(0, 1, now=10))
        self.assertEqual(told[4:], [(-5, []), (-5, [])])

    def test_heard_when_it_had_any(self):
        told = run(
            begin(idle=10, limit=10), arrives(), arrives(), asks(0, 1), asks(1, 1), heard(9, now=10), heard(9, now=19),
            heard(9, now=20),
        )
        self.assertEqual(told[5:], [
            (-2, [cancel(0, 1), tell(0, 1, TOO_LATE), tell(1, 1, TOO_LATE)]), (-2, []), (-2, [close(0, IDLE), close(1, IDLE)]),
        ])

    def test_not_heard_when_it_had_none(self):
        told = last(begin(idle=10, limit=10), arrives(), arrives(), asks(1, 1), heard(9, now=10))
        self.assertEqual(told, (-2, [cancel(1, 1), tell(1, 1, TOO_LATE), close(0, IDLE)]))

    def test_longest_limit(self):
        told = run(begin(limit=2 ** 31), arrives(), asks(0, 1), heard(0, now=2 ** 31 - 1), heard(0, now=2 ** 31))
        self.assertEqual(told[3:], [(0, []), (0, [cancel(0, 1), tell(0, 1, TOO_LATE)])])


class Idle(unittest.TestCase):
    def test_exactly_as_idle_as_the_rules_say(self):
        told = run(begin(idle=10), arrives(), arrives(9, now=9), arrives(9, now=10))
        self.assertEqual(told[2:], [(1, []), (0, [close(0, IDLE)])])

    def test_none_is_never_idle(self):
        self.assertEqual(last(begin(), arrives(), heard(0, now=LAST_TIME)), (0, []))

    def test_by_numbers(self):
        told = last(begin(idle=10), arrives(), arrives(), arrives(), leaves(0), arrives(), heard(9, now=10))
        self.assertEqual(told, (-2, [close(0, IDLE), close(1, IDLE), close(2, IDLE)]))

    def test_not_while_a_request_is_there(self):
        told = run(begin(idle=10), arrives(), arrives(), asks(0, 1), asks(1, 1), heard(9, now=50), answers_call(0, 1, now=50),
                   heard(9, now=60))
        self.assertEqual(told[5:], [(-2, []), (0, [answer(0, 1), start(1, 1)]), (-2, [close(0, IDLE)])])

    def test_longest_idle(self):
        told = run(begin(idle=2 ** 31), arrives(), heard(9, now=2 ** 31 - 1), heard(9, now=2 ** 31))
        self.assertEqual(told[2:], [(-2, []), (-2, [close(0, IDLE)])])


class GoingOn(unittest.TestCase):
    def test_an_earlier_time_is_taken_as_the_latest(self):
        told = run(begin(limit=10), arrives(now=100), asks(0, 1, now=50), heard(0, now=109), heard(0, now=7), heard(0, now=110))
        self.assertEqual(told[2:], [
            (0, [start(0, 1)]), (0, []), (0, []), (0, [cancel(0, 1), tell(0, 1, TOO_LATE)]),
        ])

    def test_an_earlier_time_of_heard_is_taken_as_the_latest(self):
        told = run(begin(idle=10), arrives(), arrives(now=5), heard(0, now=2), heard(9, now=14), heard(9, now=15))
        self.assertEqual(told[3:], [(0, []), (-2, []), (-2, [close(0, IDLE), close(1, IDLE)])])

    def test_an_earlier_time_gives_no_chances(self):
        told = run(begin(rate=1000), arrives(now=10), asks(0, 1, now=3), asks(0, 2, now=2), asks(0, 2, now=10),
                   asks(0, 2, now=11))
        self.assertEqual([number for number, wants in told[2:]], [0, 2, 2, 0])

    def test_time_does_not_go_on_with_a_number_out_of_range(self):
        calls = [
            begin(most=0, now=99), arrives(2 ** 32, now=99), asks(0, 1, cost=0, now=99), asks(0, 2 ** 32, now=99),
            asks(0, 1, cost=65536, now=99), heard(0, now=LAST_TIME + 1), leaves(0, now=LAST_TIME + 1),
            drops(0, 1, now=LAST_TIME + 1), answers_call(0, 1, now=LAST_TIME + 1), weight(0, 0, now=99),
            weight(0, 17, now=99), weight(0, 1, now=LAST_TIME + 1), tick(LAST_TIME + 1), stop(2 ** 31 + 1, now=99),
            stop(0, now=LAST_TIME + 1),
        ]
        for call in calls:
            told = run(begin(idle=10), arrives(), call, heard(0, now=9), heard(0, now=19))
            self.assertEqual(told[2:], [(-1, []), (0, []), (-2, [close(0, IDLE)])], call)

    def test_time_goes_on_with_every_other_refusal(self):
        late = [cancel(0, 1), tell(0, 1, TOO_LATE)]
        before = [begin(most=1, limit=10), arrives(), asks(0, 1)]
        for call, number in (
            (arrives(now=10), -6), (asks(5, 1, now=10), -2), (answers_call(0, 1, now=10), -5), (drops(0, 1, now=10), -5),
            (leaves(64, now=10), -2), (heard(2 ** 64 - 1, now=10), -2), (weight(1, 1, now=10), -2),
        ):
            self.assertEqual(last(*before, call), (number, late), call)

    def test_same_number_still_waits_when_another_is_late(self):
        told = last(begin(limit=10), arrives(), asks(0, 1), asks(0, 2, now=5), asks(0, 2, now=10))
        self.assertEqual(told, (-3, [cancel(0, 1), tell(0, 1, TOO_LATE), start(0, 2)]))

    def test_wants_of_time_stand_ahead_of_the_calls_own(self):
        told = last(begin(work=2, idle=10, limit=10), arrives(), arrives(), asks(0, 1), asks(0, 2, now=5),
                    answers_call(0, 2, now=10, data=[3]))
        self.assertEqual(told, (0, [cancel(0, 1), tell(0, 1, TOO_LATE), close(1, IDLE), answer(0, 2, [3])]))

    def test_turns_come_after_time_and_before_the_call(self):
        told = last(begin(limit=10), arrives(), asks(0, 1), asks(0, 2, now=5), drops(0, 2, now=10))
        self.assertEqual(told, (1, [cancel(0, 1), tell(0, 1, TOO_LATE), start(0, 2), cancel(0, 2)]))

    def test_who_leaves_as_idle_is_nobody(self):
        for call in (
            asks(0, 1, now=10), answers_call(0, 1, now=10), drops(0, 1, now=10), leaves(0, now=10), heard(0, now=10),
            weight(0, 2, now=10),
        ):
            self.assertEqual(last(begin(idle=10), arrives(), call), (-2, [close(0, IDLE)]), call)

    def test_time_goes_on_without_rules(self):
        for call in (arrives(now=40), asks(0, 1, now=40), heard(0, now=40), weight(0, 1, now=40), tick(40), stop(0, now=40)):
            self.assertEqual(last(call, heard(0, now=30), told_call()), counted(now=40), call)

    def test_time_does_not_go_on_without_rules_when_out_of_range(self):
        for call in (arrives(2 ** 32, now=40), weight(0, 0, now=40), tick(LAST_TIME + 1), stop(2 ** 31 + 1, now=40)):
            self.assertEqual(run(call, told_call()), [(-1, []), counted()], call)


if __name__ == "__main__":
    unittest.main()
