import copy
import itertools
import random
import unittest

from metronet.nets import Net
from metronet.others import gap, longest_wait, send_others
from metronet.plans import Stream, windows_at
from metronet.simulation import simulate
from tests.plain_others import (
    greatest_offset, plain_gap, plain_longest_wait, plain_period, plain_send, ticks_in,
)

PERIODS = (1, 2, 3, 4, 6, 8, 12)


def some_windows(numbers, most=4, latest=9):
    windows = []
    for _ in range(numbers.randint(0, most)):
        period = numbers.choice(PERIODS)
        length = numbers.choice((0, 1, 1, 1, 2, 3, period, period + 2))
        windows.append((numbers.randint(0, latest), length, period))
    return windows


class SendOthersTest(unittest.TestCase):
    def assert_sent(self, windows, frames, expected):
        self.assertEqual(send_others(windows, frames), expected)
        self.assertEqual(plain_send(windows, frames), expected)

    def test_earliest_tick(self):
        self.assert_sent([(0, 2, 6)], [(0, 1)], [2])
        self.assert_sent([(0, 2, 6)], [(1, 4)], [2])
        self.assert_sent([(0, 2, 6)], [(2, 4)], [2])
        self.assert_sent([(0, 2, 6)], [(3, 3)], [3])
        self.assert_sent([(0, 2, 6)], [(3, 4)], [8])
        self.assert_sent([(0, 2, 6)], [(4, 3)], [8])
        self.assert_sent([(0, 2, 6)], [(6, 1)], [8])
        self.assert_sent([(0, 2, 6)], [(7, 1)], [8])
        self.assert_sent([(0, 2, 6)], [(11, 1)], [11])

    def test_run_that_is_too_short_is_passed_over(self):
        windows = [(0, 1, 12), (3, 1, 12), (6, 1, 12)]
        self.assert_sent(windows, [(0, 2)], [1])
        self.assert_sent(windows, [(0, 3)], [7])
        self.assert_sent(windows, [(9, 5)], [19])
        self.assert_sent(windows, [(8, 5)], [19])
        self.assert_sent(windows, [(0, 6)], [None])

    def test_periods_that_differ(self):
        self.assert_sent([(0, 2, 6), (3, 1, 4)], [(0, 1), (0, 3), (0, 2), (0, 1)], [2, 8, 16, 20])

    def test_frames_follow_each_other(self):
        self.assert_sent([(0, 2, 6)], [(0, 1), (0, 1), (0, 1), (0, 1), (0, 1)], [2, 3, 4, 5, 8])
        self.assert_sent([(0, 2, 6)], [(2, 3), (2, 2), (2, 2)], [2, 8, 10])
        self.assert_sent([(0, 2, 6)], [(2, 3), (5, 1), (9, 1)], [2, 5, 9])

    def test_short_frame_does_not_overtake(self):
        self.assert_sent([(0, 2, 6)], [(3, 4), (3, 1)], [8, 14])

    def test_frames_that_are_never_sent(self):
        self.assert_sent([(0, 2, 6)], [(0, 5)], [None])
        self.assert_sent([(0, 6, 6)], [(0, 1)], [None])
        self.assert_sent([(0, 3, 6), (3, 3, 6)], [(0, 1), (5, 1)], [None, None])
        self.assert_sent([(0, 1, 1)], [(7, 1)], [None])

    def test_frames_behind_one_that_is_never_sent(self):
        self.assert_sent([(0, 2, 6)], [(0, 1), (0, 5), (0, 1), (90, 1), (90, 4)], [2, None, None, None, None])

    def test_no_windows(self):
        self.assert_sent([], [(0, 5), (2, 1), (9, 1), (9, 700), (10, 1)], [0, 5, 9, 10, 710])
        self.assertEqual(send_others([], [(10 ** 15, 10 ** 15), (10 ** 15, 1)]), [10 ** 15, 2 * 10 ** 15])

    def test_no_frames(self):
        for windows in ([], [(0, 2, 6)], [(0, 6, 6)]):
            self.assert_sent(windows, [], [])

    def test_length_zero(self):
        self.assert_sent([(0, 0, 6)], [(0, 50), (3, 1)], [0, 50])
        self.assert_sent([(3, 0, 1), (0, 2, 6), (40, 0, 5)], [(0, 4), (0, 4)], [2, 8])

    def test_length_of_the_period_and_more(self):
        for length in (6, 7, 30, 10 ** 12):
            self.assert_sent_late(length)

    def assert_sent_late(self, length):
        self.assertEqual(send_others([(20, length, 6)], [(0, 15), (3, 5), (3, 1)]), [0, 15, None])
        self.assertEqual(send_others([(20, length, 6)], [(19, 1), (20, 1)]), [19, None])
        self.assertEqual(send_others([(20, length, 6)], [(19, 2)]), [None])

    def test_before_the_first_stretch(self):
        self.assert_sent([(5, 2, 6)], [(0, 5), (0, 4), (0, 4)], [0, 7, 13])
        self.assert_sent([(5, 2, 6)], [(0, 6)], [None])
        self.assert_sent([(5, 2, 6)], [(1, 4)], [1])
        self.assert_sent([(5, 2, 6)], [(2, 4)], [7])
        self.assert_sent([(50, 2, 6)], [(0, 50)], [0])

    def test_windows_that_begin_one_after_another(self):
        windows = [(0, 1, 10), (23, 2, 10), (47, 1, 2)]
        self.assert_sent(windows, [(0, 9)], [1])
        self.assert_sent(windows, [(2, 9)], [11])
        self.assert_sent(windows, [(12, 9)], [None])
        self.assert_sent(windows, [(12, 3)], [12])
        self.assert_sent(windows, [(19, 2)], [21])
        self.assert_sent(windows, [(21, 3)], [25])
        self.assert_sent(windows, [(40, 2)], [41])
        self.assert_sent(windows, [(42, 2)], [45])
        self.assert_sent(windows, [(40, 3)], [None])
        self.assert_sent(windows, [(42, 1), (42, 4), (42, 1)], [42, None, None])

    def test_begin_of_another_window_within_a_period(self):
        # The second window begins where the first one leaves the line free.
        self.assert_sent([(0, 1, 30), (20, 1, 30)], [(1, 19)], [1])
        self.assert_sent([(0, 1, 30), (20, 1, 30)], [(2, 19)], [31])
        self.assert_sent([(0, 1, 30), (50, 1, 30)], [(1, 29), (1, 19), (1, 9)], [1, 31, 51])

    def test_great_numbers(self):
        far = 6 * 10 ** 15
        self.assertEqual(send_others([(0, 2, 6)], [(far, 4), (far, 4)]), [far + 2, far + 8])
        self.assertEqual(send_others([(far, 2, 6)], [(0, far), (0, 4)]), [0, far + 2])
        self.assertEqual(send_others([(far, 2, 6)], [(0, far + 1)]), [None])
        self.assertEqual(send_others([(0, 2, 6), (far, 1, 1)], [(0, 4), (far - 3, 4), (far, 1)]), [2, None, None])
        self.assertEqual(send_others([(0, 1, 2), (far, 1, 2)], [(1, 1), (far - 1, 1), (0, 2)]), [1, far - 1, None])

    def test_many_windows_and_frames(self):
        windows = [(number, 1, 3000) for number in range(0, 2000, 2)] + [(0, 1, 8)]
        starts = send_others(windows, [(0, 1)] * 5000)
        self.assertEqual([start for start in starts if start is None], [])
        self.assertEqual(starts, sorted(starts))
        self.assertTrue(ticks_in(windows, starts[-1] + 1).isdisjoint(starts))

    def test_against_every_tick(self):
        numbers = random.Random(1)
        for _ in range(2000):
            windows = some_windows(numbers, latest=numbers.choice((5, 20, 60)))
            ticks = sorted(numbers.randint(0, 60) for _ in range(numbers.randint(0, 6)))
            frames = [(tick, numbers.choice((1, 1, 2, 3, 5, 9))) for tick in ticks]
            self.assertEqual(send_others(windows, frames), plain_send(windows, frames), (windows, frames))


class NoWindowIsTouchedTest(unittest.TestCase):
    def test_no_tick_of_a_window_is_taken(self):
        numbers = random.Random(2)
        for _ in range(500):
            windows = some_windows(numbers, latest=40)
            frames = [(tick, numbers.randint(1, 4)) for tick in sorted(numbers.randint(0, 60) for _ in range(8))]
            taken = []
            for (_, length), start in zip(frames, send_others(windows, frames)):
                taken += [] if start is None else range(start, start + length)
            self.assertTrue(ticks_in(windows, max(taken, default=0) + 1).isdisjoint(taken))
            self.assertEqual(len(taken), len(set(taken)))

    def test_beside_a_simulation(self):
        net = Net(["host", "switch", "host", "host"], [(0, 1, 2), (1, 2, 0), (3, 1, 1)], processing=1)
        plan = [(Stream(10, 3, 60, [0, 1, 2]), [0, 6]), (Stream(15, 2, 60, [3, 1, 2]), [5, 9])]
        run = simulate(net, plan, [0, 0, 0, 0], 20)
        self.assertIsNone(run.fault)
        for port, entries in (((1, 2), (0, 1)), ((0, 1), (0,))):
            # No line but the last one adds to the ticks between the sending and the delivery.
            behind = {0: 3, 1: 2} if port == (1, 2) else {0: 9}
            sent = {
                later
                for tick, entry, _ in run.deliveries if entry in entries
                for later in range(tick - behind[entry], tick - behind[entry] + plan[entry][0].length)
            }
            starts = send_others(windows_at(plan, port), [(0, 2)] * 30)
            self.assertNotIn(None, starts)
            self.assertTrue(sent.isdisjoint(tick for start in starts for tick in (start, start + 1)), port)


class GapTest(unittest.TestCase):
    def assert_gap(self, windows, expected):
        self.assertEqual(gap(windows), expected)
        self.assertEqual(plain_gap(windows), expected)

    def test_one_window(self):
        self.assert_gap([(0, 2, 6)], 4)
        self.assert_gap([(5, 1, 6)], 5)
        self.assert_gap([(0, 1, 2)], 1)
        self.assert_gap([(0, 59, 60)], 1)

    def test_no_free_tick(self):
        self.assert_gap([(0, 6, 6)], 0)
        self.assert_gap([(3, 9, 6)], 0)
        self.assert_gap([(0, 1, 1)], 0)
        self.assert_gap([(0, 3, 6), (3, 3, 6)], 0)
        self.assert_gap([(1, 1, 2), (0, 1, 4), (2, 1, 4)], 0)

    def test_unlimited(self):
        self.assert_gap([], None)
        self.assert_gap([(0, 0, 6)], None)
        self.assert_gap([(0, 0, 6), (7, 0, 1)], None)

    def test_length_zero_beside_others(self):
        self.assert_gap([(0, 2, 6), (30, 0, 6)], 4)
        self.assert_gap([(0, 0, 1), (0, 6, 6)], 0)

    def test_free_ticks_before_the_greatest_offset_do_not_count(self):
        self.assert_gap([(100, 2, 6)], 4)
        self.assert_gap([(0, 1, 12), (103, 1, 3)], 2)
        self.assert_gap([(0, 1, 2), (100, 3, 3)], 0)

    def test_over_the_end_of_the_common_period(self):
        self.assert_gap([(4, 1, 12), (6, 1, 12)], 9)
        self.assert_gap([(8, 1, 12), (2, 1, 12)], 5)
        self.assert_gap([(0, 1, 4), (1, 1, 6)], 3)

    def test_great_numbers(self):
        self.assertEqual(gap([(10 ** 15, 2, 6), (3, 1, 6)]), 3)
        self.assertEqual(gap([(10 ** 15, 10 ** 15, 6)]), 0)
        self.assertEqual(gap([(0, 1, 3000)]), 2999)

    def test_against_every_tick(self):
        numbers = random.Random(3)
        for _ in range(1500):
            windows = some_windows(numbers, latest=numbers.choice((5, 30)))
            self.assertEqual(gap(windows), plain_gap(windows), windows)


class LongestWaitTest(unittest.TestCase):
    def assert_wait(self, windows, length, expected):
        self.assertEqual(longest_wait(windows, length), expected)
        self.assertEqual(plain_longest_wait(windows, length), expected)

    def test_one_window(self):
        self.assert_wait([(0, 2, 6)], 1, 2)
        self.assert_wait([(0, 2, 6)], 2, 3)
        self.assert_wait([(0, 2, 6)], 4, 5)
        self.assert_wait([(7, 2, 6)], 4, 5)

    def test_gap_and_one_more(self):
        for windows in ([(0, 2, 6)], [(0, 1, 12), (3, 1, 12), (6, 1, 12)], [(0, 1, 4), (1, 1, 6)], [(0, 6, 6)]):
            widest = gap(windows)
            if widest > 0:
                self.assertEqual(longest_wait(windows, widest), plain_longest_wait(windows, widest))
                self.assertIsNotNone(longest_wait(windows, widest))
            self.assertIsNone(longest_wait(windows, widest + 1))
            self.assertIsNone(longest_wait(windows, widest + 100))

    def test_unlimited(self):
        for windows in ([], [(0, 0, 6)], [(5, 0, 1), (9, 0, 3)]):
            for length in (1, 9, 10 ** 12):
                self.assertEqual(longest_wait(windows, length), 0)

    def test_one_run_in_the_common_period(self):
        self.assert_wait([(0, 1, 12), (3, 1, 12), (6, 1, 12)], 5, 12 - 1)
        self.assert_wait([(0, 1, 12), (3, 1, 12), (6, 1, 12)], 3, 9)

    def test_several_runs(self):
        self.assert_wait([(0, 1, 12), (3, 1, 12), (6, 1, 12)], 1, 1)
        self.assert_wait([(0, 1, 12), (3, 1, 12), (6, 1, 12)], 2, 2)
        self.assert_wait([(0, 2, 6), (3, 1, 4)], 3, 11)

    def test_ticks_before_the_greatest_offset_do_not_count(self):
        self.assert_wait([(0, 5, 6), (30, 1, 6)], 1, 5)
        self.assert_wait([(100, 2, 6)], 3, 4)
        self.assert_wait([(0, 1, 12), (103, 1, 3)], 2, 5)

    def test_against_every_tick(self):
        numbers = random.Random(4)
        for _ in range(700):
            windows = some_windows(numbers, latest=numbers.choice((5, 20)))
            for length in (1, 2, 3, 5):
                expected = 0 if plain_gap(windows) is None else plain_longest_wait(windows, length)
                self.assertEqual(longest_wait(windows, length), expected, (windows, length))

    def test_against_send_others(self):
        for windows in (
            [(0, 2, 6), (3, 1, 4)],
            [(9, 1, 10), (4, 2, 15), (50, 1, 6)],
            [(0, 1, 7), (2, 1, 9), (3, 1, 5)],
            [(0, 1, 3000), (700, 5, 600)],
        ):
            begin = greatest_offset(windows)
            ticks = range(begin, begin + plain_period(windows))
            widest = gap(windows)
            for length in (1, 2, widest, widest + 1):
                waits = []
                for tick in ticks:
                    [start] = send_others(windows, [(tick, length)])
                    waits.append(None if start is None else start - tick)
                if length > widest:
                    self.assertEqual(set(waits), {None})
                    self.assertIsNone(longest_wait(windows, length))
                else:
                    self.assertEqual(longest_wait(windows, length), max(waits))

    def test_frames_within_the_gap_are_sent_in_the_end(self):
        numbers = random.Random(5)
        for _ in range(300):
            windows = some_windows(numbers, latest=30)
            widest = gap(windows)
            lengths = [1, 2, 3] if widest is None else list(range(1, widest + 1))
            frames = [(tick, length) for tick, length in itertools.product((0, 7, 50), lengths)]
            self.assertNotIn(None, send_others(windows, frames))
            if widest is not None:
                self.assertEqual(send_others(windows, [(greatest_offset(windows), widest + 1)]), [None])


class OthersExampleTest(unittest.TestCase):
    def test_example(self):
        self.assertEqual(send_others([(0, 2, 6)], [(0, 3), (1, 2), (9, 5)]), [2, 8, None])
        self.assertEqual(
            [gap([(0, 2, 6)]), longest_wait([(0, 2, 6)], 3), longest_wait([], 9), gap([(0, 6, 6)])], [4, 4, 0, 0]
        )


class ArgumentsTest(unittest.TestCase):
    def test_no_function_changes_its_arguments(self):
        for windows in ([], [(9, 2, 6), (0, 1, 4), (3, 0, 5)], [(4, 6, 6), (0, 1, 1)]):
            frames = [(0, 3), (0, 1), (5, 9), (8, 1)]
            before = copy.deepcopy([windows, frames])
            send_others(windows, frames).append(7)
            gap(windows)
            longest_wait(windows, 1)
            longest_wait(windows, 50)
            self.assertEqual([windows, frames], before)


if __name__ == "__main__":
    unittest.main()
