import unittest

from fairdoor.desk import answers


class Interface(unittest.TestCase):
    def test_empty_list(self):
        self.assertEqual(answers([]), [])

    def test_numbers_of_one_call(self):
        self.assertEqual(answers([1, 1, 1, 1, 0, 0, 0, 0, 1, 0]), [2, 0, 0])
        self.assertEqual(answers([2, 0, 0]), [2, -4, 0])

    def test_several_calls(self):
        calls = [1, 2, 2, 1, 1, 0, 0, 0, 1, 0]
        calls += [2, 9, 1]
        calls += [3, 0, 70, 5, 2, 3, 10, 20, 30]
        calls += [3, 0, 71, 5, 2, 0]
        calls += [3, 0, 72, 5, 2, 1, 8]
        calls += [4, 0, 70, 3, 2, 255, 0]
        calls += [7, 0, 4]
        calls += [5, 0, 71, 5]
        calls += [6, 0, 6]
        expected = [2, 0, 0]
        expected += [2, 0, 0]
        expected += [9, 0, 1, 0, 0, 70, 3, 10, 20, 30]
        expected += [2, 0, 0]
        expected += [6, 1, 1, 2, 0, 72, 1]
        expected += [12, 0, 2, 1, 0, 70, 2, 255, 0, 0, 0, 71, 0]
        expected += [2, 0, 0]
        expected += [5, 1, 1, 3, 0, 71]
        expected += [2, 0, 0]
        self.assertEqual(answers(calls), expected)

    def test_calls_eight_to_thirteen(self):
        calls = [11, 12, 13, 0, 9, 2, 10, 0, 3, 8, 0, 1, 4]
        expected = [2, 0, 0]
        expected += [10, 0, 0, 0, 0, 0, 0, 0, 0, 0, 0]
        expected += [2, -2, 0]
        expected += [2, 0, 0, 2, -4, 0, 2, -2, 0]
        calls += [1, 3, 3, 1, 2, 0, 50, 0, 1, 0, 2, 9, 1, 2, 8, 1]
        expected += [2, 0, 0, 2, 0, 0, 2, 1, 0]
        calls += [3, 0, 70, 5, 2, 1, 44, 3, 0, 71, 5, 3, 0, 3, 0, 72, 5, 4, 0]
        expected += [7, 0, 1, 0, 0, 70, 1, 44, 2, 0, 0, 2, 0, 0]
        calls += [8, 0, 16, 5, 8, 0, 17, 5, 13, 0, 11, 12]
        expected += [2, 0, 0, 2, -1, 0]
        expected += [11, 0, 9, 16, 0, 2, 1, 4, 70, 71, 72, 0]
        expected += [3, 1, 52, 0]
        expected += [10, 0, 2, 1, 2, 3, 0, 0, 0, 5, 0]
        calls += [10, 20, 6, 10, 20, 6, 11, 12, 13, 1]
        expected += [5, 0, 1, 4, 1, 2, 2, -8, 0]
        expected += [3, 1, 26, 0]
        expected += [10, 0, 1, 1, 2, 3, 0, 0, 1, 6, 0]
        expected += [2, -2, 0]
        calls += [9, 26, 11]
        expected += [8, 0, 2, 3, 0, 70, 4, 0, 3, 2, 0, 0]
        self.assertEqual(answers(calls), expected)

    def test_wants_stand_behind_a_refusal(self):
        begin = [1, 1, 1, 1, 0, 5, 0, 0, 1, 0, 2, 9, 0]
        self.assertEqual(answers(begin + [8, 0, 2, 5])[6:], [5, -2, 1, 4, 0, 1])
        begin = [1, 1, 1, 1, 0, 0, 5, 0, 1, 0, 2, 9, 0, 3, 0, 7, 1, 0, 0, 10, 9, 0]
        self.assertEqual(answers(begin + [10, 0, 5])[-13:], [12, -8, 3, 3, 0, 7, 2, 0, 7, 4, 4, 0, 2])

    def test_close_is_told_in_three_numbers(self):
        calls = [1, 2, 2, 1, 1, 5, 0, 0, 1, 0, 2, 9, 0, 7, 0, 5]
        self.assertEqual(answers(calls), [2, 0, 0, 2, 0, 0, 5, -2, 1, 4, 0, 1])

    def test_list_handed_in_stays(self):
        calls = [1, 2, 2, 1, 1, 0, 0, 0, 1, 0, 2, 9, 1, 3, 0, 70, 5, 2, 3, 10, 20, 30, 4, 0, 70, 3, 1, 4]
        before = list(calls)
        answers(calls)
        self.assertEqual(calls, before)

    def test_list_is_never_changed_even_for_a_while(self):
        class Watched(list):
            def refuse(self, *rest):
                raise AssertionError("the list was changed")

            append = extend = insert = pop = remove = clear = sort = reverse = refuse
            __setitem__ = __delitem__ = __iadd__ = __imul__ = refuse

        calls = Watched([1, 2, 2, 1, 1, 0, 0, 0, 1, 0, 2, 9, 1, 3, 0, 70, 5, 2, 1, 10])
        self.assertEqual(len(answers(calls)), 3 + 3 + 8)
        calls = Watched(list(calls) + [8, 0, 2, 3, 9, 4, 11, 12, 13, 0, 10, 1, 5, 9, 6])
        self.assertEqual(len(answers(calls)), 3 + 3 + 8 + 3 + 3 + 3 + 11 + 10 + 3 + 9)

    def test_second_time_as_the_first(self):
        calls = [1, 2, 2, 1, 1, 0, 0, 5, 1, 0, 2, 9, 1, 3, 0, 70, 5, 2, 1, 10]
        calls += [8, 0, 3, 4, 12, 13, 0, 10, 5, 6, 11]
        first = answers(calls)
        self.assertEqual(answers(calls), first)
        self.assertEqual(answers([2, 9, 1]), [2, -4, 0])
        self.assertEqual(answers([12]), [10, 0, 0, 0, 0, 0, 0, 0, 0, 0, 0])
        self.assertEqual(answers(calls), first)

    def test_given_back_list_is_the_callers_own(self):
        calls = [1, 2, 2, 1, 1, 0, 0, 0, 1, 0]
        first = answers(calls)
        first.append(99)
        self.assertEqual(answers(calls), [2, 0, 0])

    def test_whole_numbers_only(self):
        calls = [1, 2, 2, 1, 1, 0, 9, 7, 1, 0, 2, 9, 1, 3, 0, 70, 5, 2, 1, 10, 5, 0, 70, 3]
        calls += [8, 0, 3, 3, 12, 13, 0, 6, 0, 4, 10, 5, 6, 11, 12, 9, 7]
        given = answers(calls)
        self.assertIs(type(given), list)
        for number in given:
            self.assertIs(type(number), int)

    def test_longest_lists(self):
        begin = [1, 1, 1, 1, 1, 0, 0, 0, 1, 0, 2, 9, 1]
        size = 16000 - len(begin) - 6
        data = [number % 256 for number in range(size)]
        given = answers(begin + [3, 0, 70, 5, 2, size] + data)
        self.assertEqual(given, [2, 0, 0, 2, 0, 0, 6 + size, 0, 1, 0, 0, 70, size] + data)

    def test_a_thousand_calls(self):
        calls = [1, 64, 64, 1, 64, 0, 0, 0, 1, 0, 2, 9, 1]
        for number in range(499):
            calls += [3, 0, number, 65535, number, 0, 4, 0, number, number, 0]
        given = answers(calls)
        self.assertEqual(given[-7:], [6, 0, 1, 1, 0, 498, 0])
        self.assertEqual(len(given), 6 + 499 * 14)

    def test_a_thousand_calls_that_only_tell(self):
        calls = [1, 64, 64, 64, 64, 9, 9, 0, 1, 0, 2, 5, 0]
        for number in range(128):
            calls += [3, 0, number, 65535, 0, 0]
        given = answers(calls + [13, 0] * 870)
        told = [0, 5, 1, 0, 64, 64, 0] + list(range(128))
        self.assertEqual(given[-137:], [136] + told + [0])


if __name__ == "__main__":
    unittest.main()
