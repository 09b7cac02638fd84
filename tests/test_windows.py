import copy
import itertools
import random
import unittest

from metronet.windows import common_period, first_meeting, is_free, meet
from tests.plain_windows import plain_first_meeting, plain_is_free, plain_meet


class MeetTest(unittest.TestCase):
    def assert_meet(self, first, second, expected):
        self.assertIs(meet(first, second), expected, (first, second))
        self.assertIs(meet(second, first), expected, (second, first))

    def test_equal_periods(self):
        self.assert_meet((0, 2, 6), (1, 1, 6), True)
        self.assert_meet((0, 2, 6), (2, 1, 6), False)
        self.assert_meet((0, 2, 6), (5, 1, 6), False)
        self.assert_meet((0, 2, 6), (5, 2, 6), True)
        self.assert_meet((0, 3, 6), (3, 3, 6), False)

    def test_periods_without_a_common_divisor(self):
        self.assert_meet((0, 1, 6), (3, 1, 5), True)
        self.assert_meet((0, 1, 59), (-7, 1, 60), True)

    def test_periods_with_a_common_divisor(self):
        self.assert_meet((0, 1, 6), (3, 1, 4), False)
        self.assert_meet((0, 1, 6), (2, 1, 4), True)
        self.assert_meet((0, 2, 6), (3, 1, 4), True)
        self.assert_meet((0, 1, 6), (3, 2, 4), True)

    def test_length_zero(self):
        self.assert_meet((0, 0, 6), (0, 6, 6), False)
        self.assert_meet((0, 0, 6), (0, 9, 4), False)
        self.assert_meet((1, 0, 5), (0, 0, 5), False)
        self.assert_meet((0, 0, 1), (0, 1, 1), False)

    def test_length_of_the_period_and_more(self):
        for length in (6, 7, 20):
            for offset in range(-13, 14):
                self.assert_meet((0, length, 6), (offset, 1, 6), True)
                self.assert_meet((0, length, 6), (offset, 1, 9), True)

    def test_one_offset_far_behind_the_other(self):
        for far in (6 * 10 ** 9, -6 * 10 ** 9, 6 * 10 ** 30, -6 * 10 ** 30):
            self.assert_meet((0, 2, 6), (far + 2, 1, 6), False)
            self.assert_meet((0, 2, 6), (far + 1, 1, 6), True)
            self.assert_meet((0, 2, 6), (far + 5, 1, 6), False)
            self.assert_meet((far, 1, 6), (3, 1, 4), False)

    def test_great_periods(self):
        self.assert_meet((0, 1, 10 ** 18), (5, 1, 10 ** 18 + 1), True)
        self.assert_meet((0, 5, 10 ** 18), (5, 1, 2 * 10 ** 18), False)
        self.assert_meet((0, 6, 10 ** 18), (5, 1, 2 * 10 ** 18), True)

    def test_against_the_stretches(self):
        lengths = (0, 1, 2, 3, 4, 6, 7)
        offsets = [(0, offset) for offset in range(-7, 8)] + [(-5, 3), (4, -2), (-4, -9), (0, 40), (31, 0)]
        for periods in itertools.product((1, 2, 3, 4, 6), repeat=2):
            for both, (f, s) in itertools.product(itertools.product(lengths, repeat=2), offsets):
                first, second = (f, both[0], periods[0]), (s, both[1], periods[1])
                self.assertIs(meet(first, second), plain_meet(first, second), (first, second))

    def test_against_the_stretches_with_longer_periods(self):
        numbers = random.Random(1)
        for _ in range(2000):
            first, second = [
                (numbers.randint(-60, 60), numbers.choice((0, 1, 1, 2, 3, 5, 8)), numbers.randint(5, 30))
                for _ in range(2)
            ]
            self.assert_meet(first, second, plain_meet(first, second))


class FirstMeetingTest(unittest.TestCase):
    def assert_first(self, first, second):
        expected = plain_first_meeting(first, second)
        self.assertEqual(first_meeting(first, second), expected, (first, second))
        return expected

    def test_value(self):
        self.assertEqual(first_meeting((0, 2, 6), (3, 1, 4)), (1, 1))
        self.assertIsInstance(first_meeting((0, 2, 6), (3, 1, 4)), tuple)
        self.assertEqual(first_meeting((3, 1, 4), (0, 2, 6)), (1, 1))
        self.assertEqual(first_meeting((0, 1, 6), (0, 1, 6)), (0, 0))

    def test_windows_that_do_not_meet(self):
        for first, second in (
            ((0, 2, 6), (3, 1, 6)),
            ((0, 1, 6), (3, 1, 4)),
            ((0, 0, 6), (0, 6, 6)),
            ((0, 6, 6), (0, 0, 6)),
            ((0, 0, 1), (0, 0, 1)),
            ((10 ** 12, 1, 6), (3, 1, 4)),
        ):
            self.assertIsNone(first_meeting(first, second))
            self.assertIsNone(first_meeting(second, first))

    def test_least_number_of_the_first_comes_first(self):
        self.assertEqual(self.assert_first((10, 20, 40), (0, 1, 12)), (0, 1))
        self.assertEqual(self.assert_first((0, 1, 3), (0, 20, 50)), (0, 0))
        self.assertEqual(self.assert_first((25, 1, 3), (0, 30, 10)), (0, 0))

    def test_least_number_of_the_second_among_several(self):
        # Stretches that are longer than the period lie over each other.
        self.assertEqual(self.assert_first((100, 1, 7), (0, 35, 10)), (0, 7))
        self.assertEqual(self.assert_first((5, 50, 60), (0, 2, 3)), (0, 2))
        self.assertEqual(self.assert_first((5, 50, 60), (-9, 20, 3)), (0, 0))

    def test_second_begins_later(self):
        self.assertEqual(self.assert_first((0, 1, 5), (12, 9, 20)), (3, 0))
        self.assertEqual(self.assert_first((0, 17, 5), (16, 1, 20)), (0, 0))
        self.assertEqual(self.assert_first((0, 16, 5), (16, 1, 20)), (1, 0))

    def test_against_the_plain_search(self):
        lengths = (0, 1, 2, 3, 6, 7)
        offsets = [(0, offset) for offset in (-13, -5, -1, 0, 1, 2, 3, 7)] + [(-3, 4), (5, -6), (0, 40), (31, 0)]
        for periods in itertools.product((1, 2, 3, 4, 6), repeat=2):
            for both, (f, s) in itertools.product(itertools.product(lengths, repeat=2), offsets):
                self.assert_first((f, both[0], periods[0]), (s, both[1], periods[1]))

    def test_against_the_plain_search_with_longer_periods(self):
        numbers = random.Random(2)
        met = 0
        for _ in range(3000):
            first, second = [
                (numbers.randint(-90, 90), numbers.choice((1, 1, 1, 2, 3, 5, 8, 40)), numbers.randint(5, 37))
                for _ in range(2)
            ]
            met += self.assert_first(first, second) is not None
        self.assertGreater(met, 1000)

    def test_second_begins_far_behind(self):
        # Stretches of the first window that end before the second one begins change nothing but the number.
        numbers = random.Random(3)
        for far in (5040, 10 ** 9, 10 ** 30):
            for _ in range(200):
                period, length = numbers.randint(1, 12), numbers.randint(1, 15)
                second = (far + numbers.randint(0, 20), numbers.randint(1, 15), numbers.randint(1, 12))
                before = (second[0] - length) // period - 5
                near = plain_first_meeting((before * period, length, period), second)
                expected = None if near is None else (near[0] + before, near[1])
                self.assertEqual(first_meeting((0, length, period), second), expected)

    def test_first_begins_far_behind(self):
        numbers = random.Random(4)
        for far in (5040, 10 ** 9, 10 ** 30):
            for _ in range(200):
                period, length = numbers.randint(1, 12), numbers.randint(1, 15)
                first = (far + numbers.randint(0, 20), numbers.randint(1, 15), numbers.randint(1, 12))
                before = (first[0] - length) // period - 5
                near = plain_first_meeting(first, (before * period, length, period))
                expected = None if near is None else (near[0], near[1] + before)
                self.assertEqual(first_meeting(first, (0, length, period)), expected)

    def test_great_periods(self):
        for period in (10 ** 3, 10 ** 18):
            self.assertEqual(first_meeting((0, 1, period), (1, 1, period + 1)), (period, period - 1))
            self.assertEqual(first_meeting((1, 1, period + 1), (0, 1, period)), (period - 1, period))
        # Two neighbours in Fibonacci's numbers ask for the most steps of a division with remainders.
        many, more = 1, 1
        for _ in range(3000):
            many, more = more, many + more
        k, m = first_meeting((0, 1, more), (1, 1, many))
        self.assertEqual(k * more, 1 + m * many)
        self.assertLess(k, many)
        many, more = 10 ** 15 + 37, 10 ** 15 + 91
        k, m = first_meeting((0, 3, many), (17, 4, more))
        self.assertTrue(-3 <= k * many - 17 - m * more <= 3)

    def test_many_periods_against_the_search_of_numbers(self):
        numbers = random.Random(5)
        for _ in range(300):
            period, other = numbers.randint(500, 4000), numbers.randint(500, 4000)
            length, more = numbers.randint(1, 20), numbers.randint(1, 20)
            ahead = numbers.randint(-5000, 5000)
            expected = None
            for k in range(20000):
                m = max(0, -((ahead + more - 1 - k * period) // other))
                if ahead + m * other < k * period + length:
                    expected = (k, m)
                    break
            self.assertEqual(first_meeting((0, length, period), (ahead, more, other)), expected)


class IsFreeTest(unittest.TestCase):
    def test_one_window(self):
        window = (5, 2, 6)
        for tick, expected in (
            (-7, True), (-1, True), (0, True), (4, True),
            (5, False), (6, False), (7, True), (10, True),
            (11, False), (12, False), (13, True), (16, True),
            (5 + 6 * 10 ** 9, False), (7 + 6 * 10 ** 9, True),
        ):
            self.assertIs(is_free([window], tick), expected, tick)

    def test_before_the_offset(self):
        self.assertIs(is_free([(6, 2, 6)], 0), True)
        self.assertIs(is_free([(6, 2, 6)], 1), True)
        self.assertIs(is_free([(6, 6, 6)], 5), True)
        self.assertIs(is_free([(6, 9, 6)], 5), True)

    def test_negative_ticks(self):
        self.assertIs(is_free([(-8, 2, 6)], -9), True)
        self.assertIs(is_free([(-8, 2, 6)], -8), False)
        self.assertIs(is_free([(-8, 2, 6)], -6), True)
        self.assertIs(is_free([(-8, 2, 6)], -2), False)
        self.assertIs(is_free([(0, 2, 6)], -6), True)

    def test_length_zero(self):
        for tick in range(-3, 20):
            self.assertIs(is_free([(0, 0, 6)], tick), True)
            self.assertIs(is_free([(0, 0, 1)], tick), True)

    def test_length_of_the_period_and_more(self):
        for length in (6, 7, 30):
            self.assertIs(is_free([(3, length, 6)], 2), True)
            for tick in range(3, 60):
                self.assertIs(is_free([(3, length, 6)], tick), False)

    def test_several_windows(self):
        windows = [(0, 2, 6), (3, 1, 4)]
        free = [tick for tick in range(-2, 14) if is_free(windows, tick)]
        self.assertEqual(free, [-2, -1, 2, 4, 5, 8, 9, 10])

    def test_no_window(self):
        for tick in (-5, 0, 7):
            self.assertIs(is_free([], tick), True)

    def test_against_the_stretches(self):
        numbers = random.Random(6)
        for _ in range(500):
            windows = [
                (numbers.randint(-9, 9), numbers.randint(0, 9), numbers.randint(1, 8))
                for _ in range(numbers.randint(0, 3))
            ]
            for tick in range(-12, 40):
                self.assertIs(is_free(windows, tick), plain_is_free(windows, tick), (windows, tick))


class CommonPeriodTest(unittest.TestCase):
    def test_no_window(self):
        self.assertEqual(common_period([]), 1)

    def test_one_window(self):
        self.assertEqual(common_period([(3, 2, 7)]), 7)
        self.assertEqual(common_period([(3, 0, 1)]), 1)

    def test_several_windows(self):
        self.assertEqual(common_period([(0, 1, 4), (1, 1, 6)]), 12)
        self.assertEqual(common_period([(0, 1, 6), (1, 0, 10), (-2, 9, 15)]), 30)
        self.assertEqual(common_period([(0, 1, 5), (1, 1, 7)]), 35)
        self.assertEqual(common_period([(0, 1, 12), (1, 1, 4), (2, 1, 12)]), 12)
        self.assertEqual(common_period([(0, 1, period) for period in range(1, 11)]), 2520)


class WindowsExampleTest(unittest.TestCase):
    def test_example(self):
        self.assertEqual(
            [meet((0, 2, 6), (3, 1, 4)), meet((0, 2, 6), (2, 1, 4)), meet((0, 2, 6), (3, 1, 6))],
            [True, True, False],
        )
        self.assertEqual(
            [first_meeting((0, 2, 6), (3, 1, 4)), first_meeting((0, 2, 6), (3, 1, 6))], [(1, 1), None]
        )
        self.assertEqual(
            [is_free([(0, 2, 6)], 7), is_free([(0, 2, 6)], 8), is_free([(5, 2, 6)], 0)], [False, True, True]
        )


class ArgumentsTest(unittest.TestCase):
    def test_no_function_changes_its_arguments(self):
        windows = [(4, 2, 6), (-3, 9, 4), (0, 0, 5)]
        before = copy.deepcopy(windows)
        for first, second in itertools.product(windows, repeat=2):
            meet(first, second)
            first_meeting(first, second)
        is_free(windows, 5)
        common_period(windows)
        self.assertEqual(windows, before)


if __name__ == "__main__":
    unittest.main()
