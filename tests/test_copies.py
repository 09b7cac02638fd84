import copy
import itertools
import random
import unittest

from metronet.admission import Ledger, admit
from metronet.copies import Eliminator, history_of, receive
from metronet.judging import judge
from metronet.nets import Net, are_separate
from metronet.plans import Stream, arrival_of
from metronet.routes import separate_paths
from metronet.simulation import Run, simulate
from tests.plain_copies import PlainEliminator, plain_receive
from tests.small_plans import some_errors

H, S = "host", "switch"


def diamond(processing=0, error=0):
    """Hosts 0 and 4, between which lie the switch 1 and, in a row, the switches 2 and 3."""
    lines = [(0, 1, 0), (1, 4, 0), (0, 2, 1), (2, 3, 2), (3, 4, 3)]
    return Net([H, S, S, S, H], lines, processing=processing, error=error)


def copies_in(net, period, length, deadline=120, paths=([0, 1, 4], [0, 2, 3, 4])):
    """A plan with the two copies of one stream."""
    plan = []
    for path in paths:
        stream = Stream(period, length, deadline, path)
        plan.append((stream, admit(net, plan, stream)))
    return plan


class EliminatorTest(unittest.TestCase):
    def assert_takes(self, size, numbers, taken):
        """Of the numbers in order, those are taken that stand at the given places."""
        eliminator, plain = Eliminator(size), PlainEliminator(size)
        results = [eliminator.take(number) for number in numbers]
        self.assertEqual([place for place, result in enumerate(results) if result is True], taken)
        self.assertEqual([place for place, result in enumerate(results) if result is not False], taken)
        self.assertEqual(results, [plain.take(number) for number in numbers])

    def test_example(self):
        self.assert_takes(2, [5, 5, 7, 6, 6, 4, 65535, 8], [0, 2, 3, 7])

    def test_first_number_is_taken(self):
        for number in (0, 1, 32767, 32768, 65535):
            for size in (1, 2, 1000):
                self.assert_takes(size, [number, number], [0])

    def test_history_of_one(self):
        self.assert_takes(1, [5, 4, 5, 6, 5, 6, 8, 7, 8], [0, 3, 6])
        self.assert_takes(1, [65535, 0, 65535, 0, 1], [0, 1, 4])

    def test_history_of_two(self):
        self.assert_takes(2, [5, 4, 3, 4, 7, 6, 5, 6, 8, 7], [0, 1, 4, 5, 8])

    def test_history_of_a_thousand(self):
        self.assert_takes(1000, [2000, 1001, 1000, 1001, 2001, 1002, 1001, 1002], [0, 1, 4, 5])
        self.assert_takes(1000, [999, 0, 65535, 1000, 0, 1], [0, 1, 3, 5])

    def test_numbers_before_the_first_one(self):
        self.assert_takes(5, [3, 2, 0, 65535, 65534, 65535], [0, 1, 2, 3])
        self.assert_takes(5, [0, 65532, 65531, 65533, 65532], [0, 1, 3])

    def test_over_65535(self):
        self.assert_takes(3, [65534, 65535, 65535, 1, 0, 65535, 0, 2, 65534, 0], [0, 1, 3, 4, 7])
        self.assert_takes(4, [65535, 2, 0, 65535, 1, 0, 65534], [0, 1, 2, 4])

    def test_half_way_around(self):
        self.assert_takes(3, [0, 32767, 0], [0, 1])
        self.assert_takes(3, [0, 32768, 1], [0, 2])
        self.assert_takes(3, [0, 32769, 1], [0, 2])
        self.assert_takes(1000, [40000, 7231, 7232, 40000], [0, 1, 2])
        self.assert_takes(1000, [40000, 7232, 7231], [0, 2])
        self.assert_takes(1000, [40000, 7233, 40001], [0, 2])

    def test_jump_within_the_history_keeps_what_was_taken(self):
        self.assert_takes(5, [10, 9, 13, 9, 10, 11, 8], [0, 1, 2, 5])
        self.assert_takes(5, [10, 9, 14, 10, 9, 11], [0, 1, 2, 5])

    def test_jump_beyond_the_history_forgets(self):
        self.assert_takes(5, [10, 15, 10, 11, 14], [0, 1, 3, 4])
        self.assert_takes(5, [10, 1010, 10, 1006, 1005, 1006], [0, 1, 3])

    def test_numbers_that_come_again_once_around(self):
        # The top goes around in steps of a third; the numbers of the first turn were forgotten.
        around = [0, 30000, 60000]
        self.assert_takes(1000, around + [1, 0, 65535, 1], [0, 1, 2, 3, 4, 5])
        self.assert_takes(10, [5, 4, 3] + [20000, 40000, 60000] + [5, 4, 3, 2], list(range(10)))
        for size in (1, 7, 1000):
            eliminator = Eliminator(size)
            for number in range(70000):
                self.assertIs(eliminator.take(number % 65536), True)
                if number % 97 == 0:
                    self.assertIs(eliminator.take(number % 65536), False)

    def test_repeated_numbers(self):
        self.assert_takes(4, [7] * 10, [0])
        self.assert_takes(4, [7, 8, 7, 8, 6, 7, 6, 8], [0, 1, 4])

    def test_number_that_is_dropped_changes_nothing(self):
        self.assert_takes(3, [100, 50, 99, 98, 50, 97, 101, 99], [0, 2, 3, 6])
        self.assert_takes(3, [100, 40000, 33000, 101], [0, 3])

    def test_two_eliminators_do_not_touch_each_other(self):
        first, second = Eliminator(3), Eliminator(3)
        self.assertTrue(first.take(9))
        self.assertTrue(second.take(4))
        self.assertTrue(second.take(5))
        self.assertFalse(first.take(5))
        self.assertTrue(first.take(8))
        self.assertTrue(second.take(9))
        self.assertFalse(first.take(9))

    def test_against_the_plain_history(self):
        numbers = random.Random(1)
        for _ in range(400):
            size = numbers.choice((1, 2, 3, 5, 10, 1000))
            eliminator, plain = Eliminator(size), PlainEliminator(size)
            number = numbers.choice((0, 3, 65533, numbers.randrange(65536)))
            for _ in range(60):
                self.assertIs(eliminator.take(number), plain.take(number))
                near = numbers.randint(-size - 2, size + 2)
                far = numbers.choice((32767, 32768, -32767, 20000, numbers.randrange(65536)))
                number = (number + numbers.choice((near, near, near, 1, -1, 0, far))) % 65536

    def test_each_number_is_taken_once(self):
        # Point 09.3: frames that are given at least once, and never too far below the highest one.
        numbers = random.Random(2)
        for size in (1, 2, 3, 10, 1000):
            eliminator = Eliminator(size)
            count = 66500 if size in (3, 1000) else 500
            taken = [0] * count
            missing, highest = list(range(count)), -1
            while missing:
                oldest = missing[0]
                frame = numbers.choice((oldest, numbers.randint(max(0, highest - size + 1), oldest + size - 1)))
                if frame >= count or max(highest, frame) - size + 1 > oldest:
                    frame = oldest
                highest = max(highest, frame)
                taken[frame] += eliminator.take(frame % 65536)
                if frame in missing[:size]:
                    missing.remove(frame)
            self.assertEqual(taken, [1] * count)


class HistoryTest(unittest.TestCase):
    def test_without_clock_errors(self):
        net = diamond()
        for period, expected in ((60, 2), (10, 2), (9, 3), (5, 3), (4, 4), (3, 5)):
            first = (Stream(period, 3, 300, [0, 1, 4]), [0, 3])
            second = (Stream(period, 3, 300, [0, 2, 3, 4]), [0, 4, 9])
            # They arrive at 6 and at 15.
            self.assertEqual([arrival_of(net, first, 1), arrival_of(net, second, 2)], [6, 15])
            self.assertEqual(history_of(net, first, second), expected, period)
            self.assertEqual(history_of(net, second, first), expected, period)

    def test_with_clock_errors(self):
        first = (Stream(5, 3, 300, [0, 1, 4]), [0, 3])
        second = (Stream(5, 3, 300, [0, 2, 3, 4]), [0, 4, 9])
        self.assertEqual([history_of(diamond(0, error), first, second) for error in range(6)], [3, 4, 4, 5, 5, 5])

    def test_same_arrival(self):
        entry = (Stream(1, 1, 300, [0, 1, 4]), [0, 3])
        self.assertEqual([history_of(diamond(0, error), entry, entry) for error in (0, 1, 5)], [2, 4, 12])
        entry = (Stream(11, 1, 300, [0, 1, 4]), [0, 3])
        self.assertEqual([history_of(diamond(0, error), entry, entry) for error in (0, 1, 5)], [2, 2, 2])

    def test_processing_time_and_delays_count(self):
        first = (Stream(7, 3, 300, [4, 1, 0]), [0, 30])
        second = (Stream(7, 3, 300, [0, 2, 3, 4]), [0, 40, 80])
        for processing in (0, 10):
            self.assertEqual(history_of(diamond(processing), first, second), (86 - 33) // 7 + 2)

    def test_needed_history_is_not_greater(self):
        numbers = random.Random(3)
        for _ in range(40):
            net = diamond(numbers.randint(0, 2), numbers.choice((0, 1)))
            period = numbers.randint(2, 9)
            plan = [(Stream(period, 1, 300, [0, 1, 4]), [0, 3 + 2 * net.error + numbers.randint(0, 30)])]
            plan.append((Stream(period, 1, 300, [0, 2, 3, 4]), [1, 8, 15 + numbers.randint(0, 30)]))
            needed = 0
            for e, f in itertools.product(range(-net.error, net.error + 1), repeat=2):
                arrivals = [arrival_of(net, plan[0], 1) + e, arrival_of(net, plan[1], 2) + f]
                rows = sorted((arrivals[entry] + frame * period, entry, frame)
                              for entry in (0, 1) for frame in range(60))
                highest = -1
                for _, _, frame in rows:
                    highest = max(highest, frame)
                    needed = max(needed, 1 + highest - frame)
            self.assertLessEqual(needed, history_of(net, *plan))


class ReceiveTest(unittest.TestCase):
    def test_two_copies(self):
        net = diamond()
        plan = copies_in(net, 10, 3)
        run = simulate(net, plan, [0] * 5, 3)
        self.assertEqual([offsets for _, offsets in plan], [[0, 3], [0, 4, 9]])
        self.assertEqual(run.deliveries, [
            (6, 0, 0), (15, 1, 0), (16, 0, 1), (25, 1, 1), (26, 0, 2), (35, 1, 2)
        ])
        for pair in ((0, 1), (1, 0)):
            self.assertEqual(receive(net, plan, pair, run), [(6, 0), (16, 1), (26, 2)])
        self.assertIsInstance(receive(net, plan, (0, 1), run)[0], tuple)

    def test_broken_line(self):
        net = diamond()
        plan = copies_in(net, 10, 3)
        late = [(15, 0), (25, 1), (35, 2)]
        early = [(6, 0), (16, 1), (26, 2)]
        for a, b, _ in net.lines:
            for broken in ((a, b), (b, a)):
                run = simulate(net, plan, [0] * 5, 3, broken=broken)
                self.assertEqual(receive(net, plan, (0, 1), run), late if 1 in broken else early)

    def test_other_entries_are_left_out(self):
        net = diamond()
        plan = [(Stream(10, 1, 300, [4, 1, 0]), [0, 1])] + copies_in(net, 10, 3)
        plan.append((Stream(20, 1, 300, [4, 3, 2, 0]), [0, 4, 7]))
        run = simulate(net, plan, [0] * 5, 2)
        self.assertEqual(len(run.deliveries), 8)
        self.assertEqual(receive(net, plan, (1, 2), run), [(6, 0), (16, 1)])
        self.assertEqual(receive(net, plan, (2, 1), run), [(6, 0), (16, 1)])

    def test_second_copy_many_periods_behind(self):
        net = diamond()
        plan = [(Stream(2, 1, 300, [0, 1, 4]), [0, 1]), (Stream(2, 1, 300, [0, 2, 3, 4]), [1, 3, 6])]
        self.assertEqual([arrival_of(net, plan[0], 1), arrival_of(net, plan[1], 2)], [2, 10])
        for broken, expected in ((None, 2), ((2, 3), 2), ((1, 4), 10)):
            run = simulate(net, plan, [0] * 5, 50, broken=broken)
            self.assertIsNone(run.fault)
            self.assertEqual(
                receive(net, plan, (0, 1), run), [(expected + 2 * frame, frame) for frame in range(50)]
            )

    def test_copies_at_the_same_tick(self):
        net = Net([H, S, S, H], [(0, 1, 0), (0, 2, 0), (1, 3, 0), (2, 3, 0)])
        plan = [(Stream(10, 3, 300, [0, 1, 3]), [0, 3]), (Stream(10, 3, 300, [0, 2, 3]), [0, 3])]
        run = simulate(net, plan, [0] * 4, 2)
        self.assertEqual(run.deliveries, [(6, 0, 0), (6, 1, 0), (16, 0, 1), (16, 1, 1)])
        self.assertEqual(receive(net, plan, (0, 1), run), [(6, 0), (16, 1)])

    def test_clock_errors(self):
        net = diamond(0, 2)
        plan = copies_in(net, 40, 3)
        self.assertIsNone(judge(net, plan))
        arrivals = [arrival_of(net, plan[0], 1), arrival_of(net, plan[1], 2)]
        for first, second in itertools.product(range(-2, 3), repeat=2):
            run = simulate(net, plan, [0, first, 0, second, 0], 3)
            tick = min(arrivals[0] + first, arrivals[1] + second)
            self.assertEqual(receive(net, plan, (0, 1), run), [(tick + 40 * frame, frame) for frame in range(3)])

    def test_run_without_deliveries(self):
        net = diamond()
        plan = copies_in(net, 10, 3)
        self.assertEqual(receive(net, plan, (0, 1), Run([], None)), [])
        self.assertEqual(receive(net, plan, (0, 1), Run([(5, 2, 0)], None)), [])

    def test_run_with_a_break(self):
        net = diamond()
        plan = copies_in(net, 10, 3)
        run = Run([(6, 0, 0), (15, 1, 0)], ("busy", 17, (0, 1)))
        self.assertEqual(receive(net, plan, (0, 1), run), [(6, 0)])

    def test_history_decides(self):
        # The history is 2 + 9 // 10: frames that are further behind are dropped, though no copy was taken.
        net = diamond()
        plan = copies_in(net, 10, 3)
        run = Run([(26, 0, 2), (27, 1, 1), (28, 1, 0), (29, 0, 1)], None)
        self.assertEqual(receive(net, plan, (0, 1), run), [(26, 2), (27, 1)])

    def test_numbers_of_frames_beyond_65535(self):
        net = diamond()
        plan = copies_in(net, 10, 3)
        run = Run([(tick, entry, 65530 + tick) for tick in range(20) for entry in (0, 1)], None)
        self.assertEqual(receive(net, plan, (0, 1), run), [(tick, 65530 + tick) for tick in range(20)])


class SentTwiceTest(unittest.TestCase):
    """Points 02.3, 08.2 and 09.5 together: a stream along two separate paths comes through."""

    def some_net(self, numbers):
        count = numbers.randint(5, 9)
        kinds = [H, H] + [numbers.choice((S, S, S, H)) for _ in range(count - 2)]
        pairs = [pair for pair in itertools.combinations(range(count), 2) if numbers.random() < 0.5]
        lines = [(a, b, numbers.randint(0, 3)) for a, b in pairs]
        return Net(kinds, lines, processing=numbers.randint(0, 2), error=numbers.choice((0, 0, 1, 2)))

    def plan_of(self, numbers, net, paths):
        """The plan of a ledger in which both copies and some other streams stand, and the places of the copies."""
        ledger = Ledger(net)
        period = numbers.choice((8, 12, 24, 30))
        for number in range(numbers.randint(0, 3)):
            path = numbers.choice(paths)
            ledger.request(f"before {number}", Stream(numbers.choice((12, 24)), 1, 120, path))
        for name, path in zip(("first", "second"), paths):
            ledger.request(name, Stream(period, 1, 120, path))
        ledger.request("behind", Stream(24, 1, 120, paths[0][::-1]))
        ledger.release("before 1")
        names = ledger.names()
        if "first" not in names or "second" not in names:
            return None, None
        return ledger.plan(), (names.index("first"), names.index("second"))

    def test_each_frame_is_received_once(self):
        numbers = random.Random(4)
        tried = 0
        while tried < 60:
            net = self.some_net(numbers)
            paths = separate_paths(net, 0, 1)
            if paths is None:
                continue
            self.assertTrue(are_separate(*paths))
            plan, pair = self.plan_of(numbers, net, paths)
            if plan is None:
                continue
            tried += 1
            self.assertIsNone(judge(net, plan))
            for broken in [None] + [line[:2] for line in net.lines]:
                run = simulate(net, plan, some_errors(net, numbers), 12, broken=broken)
                self.assertIsNone(run.fault)
                received = receive(net, plan, pair, run)
                self.assertEqual(sorted(frame for _, frame in received), list(range(12)))
                self.assertEqual(received, plain_receive(run.deliveries, pair))


class CopiesExampleTest(unittest.TestCase):
    def test_example(self):
        e = Eliminator(2)
        self.assertEqual(
            [e.take(number) for number in [5, 5, 7, 6, 6, 4, 65535, 8]],
            [True, False, True, True, False, False, False, True],
        )


class ArgumentsTest(unittest.TestCase):
    def test_no_function_changes_its_arguments(self):
        net = diamond(1, 1)
        plan = copies_in(net, 20, 2)
        run = simulate(net, plan, [1, 0, -1, 0, 1], 4)
        before = copy.deepcopy([vars(net), plan, vars(run)])
        history_of(net, *plan)
        first = receive(net, plan, (0, 1), run)
        first.append((0, 0))
        self.assertEqual([vars(net), plan, vars(run)], before)
        self.assertEqual(receive(net, plan, (0, 1), run), first[:-1])


if __name__ == "__main__":
    unittest.main()
