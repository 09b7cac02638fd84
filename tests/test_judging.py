import copy
import itertools
import random
import unittest

from metronet.judging import judge, wait_of, worst_errors
from metronet.nets import Net
from metronet.plans import Stream
from metronet.simulation import simulate
from tests.plain_judging import all_faults
from tests.small_plans import chain, enough_frames, entry_along, ring, some_entry, star

H, S = "host", "switch"


def fork(error=0):
    """Hosts 0, 2 and 3 around the switch 1, without delays."""
    return Net([H, S, H, H], [(0, 1, 0), (1, 2, 0), (3, 1, 0)], error=error)


def row(error=0):
    """A host, two switches and a host in a row."""
    return Net([H, S, S, H], [(0, 1, 2), (1, 2, 0), (3, 2, 3)], processing=1, error=error)


def crossing():
    """A ring of the switches 1 to 4, which paths pass from 1 to 4 or from 3 to 2."""
    lines = [(0, 1, 0), (1, 2, 0), (2, 3, 0), (3, 4, 0), (4, 5, 0), (6, 3, 0), (4, 1, 0), (2, 7, 0)]
    return Net([H, S, S, S, S, H, H, H], lines)


class JudgingTest(unittest.TestCase):
    def assert_only(self, net, plan, fault):
        """The plan has this one fault, and no other one."""
        self.assertEqual(all_faults(net, plan), [fault])
        self.assertEqual(judge(net, plan), fault)
        self.assertIsInstance(judge(net, plan), tuple)

    def assert_none(self, net, plan):
        self.assertEqual(all_faults(net, plan), [])
        self.assertIsNone(judge(net, plan))

    def assert_first(self, net, plan, fault, *others):
        """The plan has all of these faults, and the first one is its fault."""
        faults = all_faults(net, plan)
        self.assertEqual([other for other in (fault,) + others if other not in faults], [])
        self.assertEqual(judge(net, plan), fault)


class TimesTest(JudgingTest):
    def plan(self, offsets, deadline=300):
        return [(Stream(30, 4, deadline, [0, 1, 2, 3]), offsets)]

    def test_early_without_clock_errors(self):
        self.assert_none(row(), self.plan([0, 7, 12]))
        self.assert_only(row(), self.plan([0, 6, 12]), ("early", 0, 1))
        self.assert_only(row(), self.plan([0, 7, 11]), ("early", 0, 2))
        self.assert_only(row(), self.plan([1, 7, 12]), ("early", 0, 1))

    def test_early_with_clock_errors(self):
        self.assert_none(row(2), self.plan([0, 11, 20]))
        self.assert_only(row(2), self.plan([0, 10, 20]), ("early", 0, 1))
        self.assert_only(row(2), self.plan([0, 11, 19]), ("early", 0, 2))
        self.assert_none(row(5), self.plan([3, 20, 35]))
        self.assert_only(row(5), self.plan([3, 20, 34]), ("early", 0, 2))

    def test_late_without_clock_errors(self):
        self.assert_none(row(), self.plan([0, 7, 12], 19))
        self.assert_only(row(), self.plan([0, 7, 12], 18), ("late", 0))
        self.assert_only(row(), self.plan([0, 7, 13], 19), ("late", 0))

    def test_late_with_clock_errors(self):
        self.assert_none(row(2), self.plan([0, 11, 20], 29))
        self.assert_only(row(2), self.plan([0, 11, 20], 28), ("late", 0))

    def test_path_without_a_switch(self):
        for error in (0, 3):
            net = Net([H, H], [(0, 1, 7)], processing=9, error=error)
            self.assert_none(net, [(Stream(20, 5, 16 + error, [1, 0]), [4])])
            self.assert_only(net, [(Stream(20, 5, 15 + error, [1, 0]), [4])], ("late", 0))

    def test_no_entries(self):
        self.assertIsNone(judge(row(), []))
        self.assertIsNone(judge(row(5), []))


class BusyTest(JudgingTest):
    def plan(self, offset, other_offset, error=0):
        """Two entries through the first port of the host 0, and no other common port."""
        return [
            (Stream(10, 3, 300, [0, 1, 2]), [offset, offset + 3 + 2 * error]),
            (Stream(10, 3, 300, [0, 1, 3]), [other_offset, other_offset + 3 + 2 * error]),
        ]

    def test_first_port(self):
        for error in (0, 2):
            for offset in range(20):
                if offset % 10 in (3, 4, 5, 6, 7):
                    self.assert_none(fork(error), self.plan(0, offset, error))
                else:
                    self.assert_only(fork(error), self.plan(0, offset, error), ("busy", 0, 1, (0, 1)))

    def test_later_port(self):
        first = (Stream(10, 3, 300, [0, 1, 2]), [0, 3])
        second = Stream(10, 3, 300, [3, 1, 2])
        self.assert_only(fork(), [first, (second, [2, 5])], ("busy", 0, 1, (1, 2)))
        self.assert_none(fork(), [first, (second, [3, 6])])
        self.assert_only(fork(), [(second, [2, 5]), first], ("busy", 0, 1, (1, 2)))

    def test_other_direction_is_another_port(self):
        first = (Stream(10, 9, 300, [0, 1, 2]), [0, 9])
        self.assert_none(fork(), [first, (Stream(10, 9, 300, [2, 1, 0]), [0, 9])])

    def test_periods_that_differ(self):
        first = (Stream(6, 2, 300, [0, 1, 2]), [0, 2])
        self.assert_only(fork(), [first, (Stream(4, 1, 300, [0, 1, 3]), [3, 4])], ("busy", 0, 1, (0, 1)))
        first = (Stream(6, 1, 300, [0, 1, 2]), [0, 1])
        self.assert_none(fork(), [first, (Stream(4, 1, 300, [0, 1, 3]), [3, 4])])

    def test_the_frames_of_one_entry_are_not_busy_with_each_other(self):
        self.assert_none(fork(), [(Stream(5, 5, 300, [0, 1, 2]), [0, 5])])


class QueueTest(JudgingTest):
    def plan(self, offsets, other_offsets, period=10):
        return [(Stream(period, 3, 300, [0, 1, 2]), offsets), (Stream(period, 3, 300, [3, 1, 2]), other_offsets)]

    def test_two_entries(self):
        self.assert_only(fork(), self.plan([0, 3], [0, 6]), ("queue", 0, 1, (1, 2)))
        self.assert_none(fork(), self.plan([0, 3], [1, 6]))
        self.assert_only(fork(), self.plan([0, 6], [0, 3]), ("queue", 0, 1, (1, 2)))
        self.assert_only(fork(), self.plan([0, 6], [2, 9]), ("queue", 0, 1, (1, 2)))
        self.assert_none(fork(), self.plan([0, 6], [3, 9]))

    def test_two_entries_with_clock_errors(self):
        self.assert_only(fork(1), self.plan([0, 5], [3, 8], 30), ("queue", 0, 1, (1, 2)))
        self.assert_none(fork(1), self.plan([0, 5], [4, 9], 30))
        self.assert_only(fork(5), self.plan([0, 13], [19, 32], 60), ("queue", 0, 1, (1, 2)))
        self.assert_none(fork(5), self.plan([0, 13], [20, 33], 60))

    def test_two_entries_in_a_later_period(self):
        self.assert_only(fork(), self.plan([0, 3], [10, 16]), ("queue", 0, 1, (1, 2)))
        self.assert_none(fork(), self.plan([0, 3], [11, 16]))

    def test_one_entry(self):
        stream = Stream(10, 3, 300, [0, 1, 2])
        self.assert_none(fork(), [(stream, [0, 13])])
        self.assert_only(fork(), [(stream, [0, 14])], ("queue", 0, 0, (1, 2)))
        self.assert_none(fork(2), [(stream, [0, 9])])
        self.assert_only(fork(2), [(stream, [0, 10])], ("queue", 0, 0, (1, 2)))

    def test_one_entry_with_the_least_period(self):
        stream = Stream(1, 1, 300, [0, 1, 2])
        self.assert_none(fork(), [(stream, [0, 1])])
        self.assert_none(fork(), [(stream, [0, 2])])
        self.assert_only(fork(), [(stream, [0, 3])], ("queue", 0, 0, (1, 2)))

    def test_no_queue_at_the_first_port(self):
        self.assert_none(fork(), [(Stream(10, 3, 300, [0, 1, 2]), [200, 203])])
        plan = [(Stream(10, 3, 300, [0, 1, 2]), [0, 3]), (Stream(10, 3, 300, [0, 1, 3]), [3, 6])]
        self.assert_none(fork(), plan)


class OrderTest(JudgingTest):
    def test_by_entry(self):
        early, late = [0, 2], [0, 9]
        streams = [Stream(30, 3, 11, [0, 1, 2]), Stream(30, 3, 11, [2, 1, 0])]
        for first, second in itertools.product((early, late), repeat=2):
            faults = [
                ("early", number, 1) if offsets == early else ("late", number)
                for number, offsets in enumerate((first, second))
            ]
            self.assert_first(fork(), list(zip(streams, (first, second))), *faults)

    def test_by_hop(self):
        net = row()
        stream = Stream(30, 4, 300, [0, 1, 2, 3])
        self.assert_first(net, [(stream, [0, 6, 10])], ("early", 0, 1), ("early", 0, 2))

    def test_early_before_late(self):
        plan = [(Stream(30, 4, 17, [0, 1, 2, 3]), [0, 7, 11])]
        self.assert_first(row(), plan, ("early", 0, 2), ("late", 0))

    def test_times_of_all_entries_before_meetings(self):
        first = (Stream(10, 3, 300, [0, 1, 2]), [0, 3])
        for offsets, deadline, fault in (([0, 2], 300, ("early", 2, 1)), ([0, 3], 5, ("late", 2))):
            plan = [first, first, (Stream(10, 3, deadline, [2, 1, 0]), offsets)]
            self.assert_first(fork(), plan, fault, ("busy", 0, 1, (0, 1)), ("queue", 0, 1, (1, 2)))

    def test_busy_before_queue(self):
        plan = [(Stream(10, 3, 300, [0, 1, 2]), [0, 3]), (Stream(10, 3, 300, [3, 1, 2]), [0, 3])]
        self.assert_first(fork(), plan, ("busy", 0, 1, (1, 2)), ("queue", 0, 1, (1, 2)))

    def test_queue_at_a_hop_before_busy_at_a_later_one(self):
        net = Net([H, S, S, H, H], [(0, 1, 0), (1, 2, 0), (2, 3, 0), (4, 1, 0)])
        plan = [(Stream(20, 3, 300, [0, 1, 2, 3]), [0, 3, 11]), (Stream(20, 3, 300, [4, 1, 2, 3]), [0, 6, 11])]
        self.assert_first(net, plan, ("queue", 0, 1, (1, 2)), ("busy", 0, 1, (2, 3)))

    def test_hops_of_the_lesser_entry(self):
        # One path passes the port (1, 2) before the port (3, 4), the other one behind it.
        offsets = [0, 3, 6, 13, 16]
        forth = (Stream(10, 3, 300, [0, 1, 2, 3, 4, 5]), offsets)
        back = (Stream(10, 3, 300, [6, 3, 4, 1, 2, 7]), offsets)
        faults = [("busy", 0, 1, (1, 2)), ("busy", 0, 1, (3, 4))]
        self.assert_first(crossing(), [forth, back], *faults)
        self.assert_first(crossing(), [back, forth], *faults[::-1])

    def test_entries_i_in_order(self):
        def entry(offset):
            return (Stream(10, 3, 300, [0, 1, 2]), [offset, offset + 3])

        plan = [entry(0), entry(4), entry(2)]
        self.assert_first(fork(), plan, ("busy", 0, 2, (0, 1)), ("busy", 1, 2, (0, 1)))

    def test_entries_j_before_i(self):
        def entry(offset):
            return (Stream(20, 3, 300, [0, 1, 2]), [offset, offset + 3])

        plan = [entry(0), entry(5), entry(6), entry(1)]
        self.assert_first(fork(), plan, ("busy", 1, 2, (0, 1)), ("busy", 0, 3, (0, 1)))

    def test_an_entry_with_itself_comes_behind_the_entries_before_it(self):
        long_wait = [0, 14]
        short = (Stream(10, 3, 300, [0, 1, 2]), [0, 3])
        waiting = (Stream(10, 3, 300, [3, 1, 2]), long_wait)
        self.assert_first(fork(), [short, waiting], ("busy", 0, 1, (1, 2)), ("queue", 1, 1, (1, 2)))
        self.assert_first(fork(), [waiting, short], ("queue", 0, 0, (1, 2)), ("busy", 0, 1, (1, 2)))
        apart = (Stream(10, 3, 300, [2, 1, 0]), [0, 3])
        also = (Stream(10, 3, 300, [2, 1, 0]), [1, 4])
        self.assert_first(
            fork(), [apart, waiting, also], ("queue", 1, 1, (1, 2)), ("busy", 0, 2, (2, 1))
        )

    def test_many_plans(self):
        numbers = random.Random(1)
        seen = {}
        for _ in range(3000):
            net = numbers.choice((star, chain, ring))(numbers.randint(0, 2), numbers.choice((0, 0, 1, 2)))
            slacks = numbers.choice(((0,), (0, 0, 1, 2), (0, 0, 0, 1, 2, 5, -1)))
            deadline = numbers.choice((300, 300, 25))
            plan = [some_entry(net, numbers, slacks, deadline) for _ in range(numbers.randint(1, 4))]
            faults = all_faults(net, plan)
            self.assertEqual(judge(net, plan), faults[0] if faults else None)
            kind = faults[0][0] if faults else None
            seen[kind] = seen.get(kind, 0) + 1
        self.assertEqual(set(seen), {"early", "late", "busy", "queue", None})
        self.assertGreater(min(seen.values()), 100)


class WaitTest(unittest.TestCase):
    def test_offset_at_the_arrival(self):
        entry = (Stream(30, 4, 300, [0, 1, 2, 3]), [0, 7, 12])
        self.assertEqual(wait_of(row(), entry, 1), (7, 1, 30))
        self.assertEqual(wait_of(row(), entry, 2), (12, 1, 30))
        self.assertIsInstance(wait_of(row(), entry, 1), tuple)

    def test_greater_offset(self):
        entry = (Stream(30, 4, 300, [0, 1, 2, 3]), [5, 13, 40])
        self.assertEqual(wait_of(row(), entry, 1), (12, 1, 30))
        self.assertEqual(wait_of(row(), entry, 2), (18, 22, 30))

    def test_clock_errors(self):
        entry = (Stream(30, 4, 300, [0, 1, 2, 3]), [0, 11, 22])
        self.assertEqual(wait_of(row(2), entry, 1), (3, 8, 30))
        self.assertEqual(wait_of(row(2), entry, 2), (12, 10, 30))
        self.assertEqual(wait_of(row(5), (entry[0], [0, 17, 32]), 1), (-3, 20, 30))

    def test_offset_before_the_arrival(self):
        entry = (Stream(30, 4, 300, [0, 1, 2, 3]), [9, 7, 12])
        self.assertEqual(wait_of(row(), entry, 1), (16, 1, 30))
        self.assertEqual(wait_of(row(2), entry, 1), (12, 1, 30))


class WorstErrorsTest(unittest.TestCase):
    def setUp(self):
        self.net = row(3)
        self.plan = [
            (Stream(30, 4, 300, [3, 2, 1, 0]), [0, 14, 25]),
            (Stream(30, 4, 300, [0, 1, 2, 3]), [0, 13, 24]),
        ]

    def test_busy(self):
        self.assertEqual(worst_errors(self.net, self.plan, ("busy", 0, 1, (1, 2))), [0, 0, 0, 0])

    def test_early(self):
        self.assertEqual(worst_errors(self.net, self.plan, ("early", 1, 1)), [3, -3, 0, 0])
        self.assertEqual(worst_errors(self.net, self.plan, ("early", 1, 2)), [0, 3, -3, 0])
        self.assertEqual(worst_errors(self.net, self.plan, ("early", 0, 1)), [0, 0, -3, 3])
        self.assertEqual(worst_errors(self.net, self.plan, ("early", 0, 2)), [0, -3, 3, 0])

    def test_late(self):
        self.assertEqual(worst_errors(self.net, self.plan, ("late", 0)), [0, 3, 0, 0])
        self.assertEqual(worst_errors(self.net, self.plan, ("late", 1)), [0, 0, 3, 0])

    def test_queue(self):
        self.assertEqual(worst_errors(self.net, self.plan, ("queue", 0, 1, (2, 3))), [-3, -3, 3, -3])
        self.assertEqual(worst_errors(self.net, self.plan, ("queue", 1, 1, (1, 2))), [-3, 3, -3, -3])

    def test_clock_bound_zero(self):
        for fault in (("busy", 0, 1, (1, 2)), ("early", 0, 1), ("late", 0), ("queue", 0, 1, (1, 2))):
            self.assertEqual(worst_errors(row(), self.plan, fault), [0, 0, 0, 0])


class FaultsShowTest(unittest.TestCase):
    def assert_shows(self, net, plan):
        """The fault of the plan shows with the worst errors. Returns its kind, or None if there is none."""
        fault = judge(net, plan)
        if fault is None:
            return None
        errors = worst_errors(net, plan, fault)
        self.assertTrue(all(abs(error) <= net.error for error in errors))
        run = simulate(net, plan, errors, enough_frames(plan))
        late = [row for row in run.deliveries if row[0] > row[2] * plan[row[1]][0].period + plan[row[1]][0].deadline]
        self.assertTrue(run.fault is not None or late, (fault, [(vars(stream), at) for stream, at in plan]))
        return fault[0]

    def test_two_entries_with_many_offsets(self):
        kinds = []
        for error, (first, second) in itertools.product((0, 1), ((6, 6), (4, 6), (8, 12))):
            net = star(error=error)
            streams = [Stream(first, 2, 12, [0, 1, 2]), Stream(second, 1, 12, [3, 1, 2])]
            for start, one, other in itertools.product(range(8), range(-1, 7), range(-1, 4)):
                plan = [entry_along(net, streams[0], 2, [one]), entry_along(net, streams[1], start, [other])]
                kinds.append(self.assert_shows(net, plan))
        self.assertEqual(set(kinds), {"early", "busy", "queue", "late", None})

    def test_many_plans(self):
        numbers = random.Random(2)
        kinds = []
        for _ in range(1500):
            net = numbers.choice((star, chain, ring))(numbers.randint(0, 2), numbers.choice((0, 1, 2)))
            slacks = numbers.choice(((0,), (0, 0, 1, 2, 5), (0, 0, 0, 1, 2, 9, -1)))
            plan = [some_entry(net, numbers, slacks, numbers.choice((300, 300, 30)))
                    for _ in range(numbers.randint(1, 3))]
            kinds.append(self.assert_shows(net, plan))
        for kind in ("early", "busy", "queue", "late", None):
            self.assertGreater(kinds.count(kind), 50, kind)

    def test_the_last_number_that_is_a_fault(self):
        net = fork(2)
        stream = Stream(10, 3, 300, [0, 1, 2])
        for plan, expected in (
            ([(stream, [0, 6])], "early"),
            ([(Stream(10, 3, 11, [0, 1, 2]), [0, 7])], "late"),
            ([(stream, [0, 10])], "queue"),
            ([(stream, [0, 7]), (Stream(10, 3, 300, [0, 1, 3]), [2, 9])], "busy"),
            ([(Stream(30, 3, 300, [0, 1, 2]), [0, 7]), (Stream(30, 3, 300, [3, 1, 2]), [7, 14])], "queue"),
        ):
            self.assertEqual(self.assert_shows(net, plan), expected)


class TakenAwayTest(unittest.TestCase):
    def test_no_fault_without_an_entry(self):
        numbers = random.Random(3)
        many = 0
        while many < 300:
            net = numbers.choice((star, chain, ring))(numbers.randint(0, 2), numbers.choice((0, 0, 1)))
            plan = [some_entry(net, numbers, (0, 0, 1, 2)) for _ in range(numbers.randint(2, 4))]
            if judge(net, plan) is None:
                many += 1
                for number in range(len(plan)):
                    self.assertIsNone(judge(net, plan[:number] + plan[number + 1:]))


class JudgingExampleTest(unittest.TestCase):
    def test_example(self):
        net = Net(["host", "switch", "host", "host"], [(0, 1, 0), (1, 2, 0), (3, 1, 0)])
        first = (Stream(10, 3, 20, [0, 1, 2]), [0, 3])
        second = (Stream(10, 3, 20, [3, 1, 2]), [2, 5])
        self.assertEqual(
            [judge(net, [first, second]), judge(net, [first, (second[0], [3, 6])])], [("busy", 0, 1, (1, 2)), None]
        )
        self.assertEqual(judge(net, [first, (second[0], [0, 6])]), ("queue", 0, 1, (1, 2)))


class ArgumentsTest(unittest.TestCase):
    def test_no_function_changes_its_arguments(self):
        net = fork(1)
        stream, other = Stream(20, 3, 300, [0, 1, 2]), Stream(20, 3, 300, [3, 1, 2])
        for plan in (
            [(stream, [0, 5]), (other, [4, 9])],
            [(stream, [0, 4]), (other, [4, 9])],
            [(stream, [0, 5]), (other, [3, 8])],
            [(stream, [0, 5]), (other, [0, 5])],
            [(Stream(20, 3, 8, [0, 1, 2]), [0, 5])],
        ):
            before = copy.deepcopy([vars(net), plan])
            fault = judge(net, plan)
            wait_of(net, plan[0], 1)
            if fault is not None:
                worst_errors(net, plan, fault)
            self.assertEqual([vars(net), plan], before)


if __name__ == "__main__":
    unittest.main()
