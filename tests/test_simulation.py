import copy
import itertools
import random
import unittest

from metronet.judging import judge
from metronet.nets import Net
from metronet.plans import Stream
from metronet.simulation import Run, simulate
from tests.plain_simulation import plain_simulate
from tests.small_plans import all_errors, chain, ring, some_entry, some_errors, star

H, S = "host", "switch"


def row(error=0):
    """A host, a switch and a host in a row."""
    return Net([H, S, H], [(0, 1, 2), (1, 2, 3)], processing=1, error=error)


def fork():
    """Hosts 0, 2 and 3 around the switch 1, without delays."""
    return Net([H, S, H, H], [(0, 1, 0), (1, 2, 0), (3, 1, 0)])


def hub(many=8):
    """A switch, which is 0, and hosts around it, without delays."""
    return Net([S] + [H] * many, [(0, host, 0) for host in range(1, many + 1)])


def line_of_switches():
    """A host, three switches and a host in a row, and one more host at each switch, without delays."""
    return Net(
        [H, S, S, S, H, H, H, H],
        [(0, 1, 0), (1, 2, 0), (2, 3, 0), (3, 4, 0), (5, 1, 0), (6, 2, 0), (7, 3, 0)],
    )


class SimulationTest(unittest.TestCase):
    def assert_run(self, net, plan, count, deliveries, fault=None, *, errors=None, broken=None):
        if errors is None:
            errors = [0] * len(net.kinds)
        run = simulate(net, plan, errors, count, broken=broken)
        self.assertIsInstance(run, Run)
        self.assertEqual((run.deliveries, run.fault), (deliveries, fault))
        self.assertEqual(plain_simulate(net, plan, errors, count, broken), (deliveries, fault))

    def assert_break(self, net, plan, fault, *, count=1, errors=None, broken=None):
        """The simulation ends with this break, whatever was delivered."""
        if errors is None:
            errors = [0] * len(net.kinds)
        run = simulate(net, plan, errors, count, broken=broken)
        self.assertEqual(run.fault, fault)
        self.assertIsInstance(run.fault, tuple)
        self.assertEqual(plain_simulate(net, plan, errors, count, broken), (run.deliveries, fault))


class RunTest(unittest.TestCase):
    def test_attributes(self):
        run = Run([(4, 0, 0)], ("busy", 3, (0, 1)))
        self.assertEqual([run.deliveries, run.fault], [[(4, 0, 0)], ("busy", 3, (0, 1))])
        self.assertIsNone(Run(deliveries=[], fault=None).fault)
        for name in ("deliveries", "fault"):
            self.assertIn(name, vars(run))


class TimesTest(SimulationTest):
    def plan(self, *offsets):
        return [(Stream(10, 4, 30, [0, 1, 2]), list(offsets))]

    def test_delay_and_processing_time(self):
        self.assert_run(row(), self.plan(0, 7), 1, [(14, 0, 0)])
        self.assert_run(row(), self.plan(0, 6), 1, [], ("absent", 6, (1, 2)))
        self.assert_run(row(), self.plan(5, 12), 1, [(19, 0, 0)])
        self.assert_run(row(), self.plan(5, 11), 1, [], ("absent", 11, (1, 2)))

    def test_no_processing_time_at_a_host(self):
        net = Net([H, H], [(0, 1, 20)], processing=10)
        self.assert_run(net, [(Stream(5, 3, 30, [1, 0]), [2])], 2, [(25, 0, 0), (30, 0, 1)])

    def test_delay_counts_in_both_directions(self):
        self.assert_run(row(), [(Stream(20, 4, 30, [2, 1, 0]), [0, 8])], 1, [(14, 0, 0)])
        self.assert_run(row(), [(Stream(20, 4, 30, [2, 1, 0]), [0, 7])], 1, [], ("absent", 7, (1, 0)))

    def test_frame_waits_for_its_window(self):
        self.assert_run(row(), self.plan(0, 13), 2, [(20, 0, 0), (30, 0, 1)])

    def test_several_frames(self):
        for count in (1, 2, 3, 200):
            self.assert_run(row(), self.plan(0, 7), count, [(14 + 10 * k, 0, k) for k in range(count)])

    def test_clock_errors(self):
        for first, second, third in itertools.product(range(-2, 3), repeat=3):
            self.assert_run(
                row(2), self.plan(3, 14), 2, [(21 + second, 0, 0), (31 + second, 0, 1)], errors=[first, second, third]
            )

    def test_clock_errors_at_which_the_frame_comes_too_late(self):
        for first, second in itertools.product(range(-2, 3), repeat=2):
            fault = ("absent", 7 + second, (1, 2)) if first > second else None
            deliveries = [(14 + second, 0, 0)] if first <= second else []
            self.assert_run(row(2), self.plan(0, 7), 1, deliveries, fault, errors=[first, second, 0])

    def test_ticks_below_zero(self):
        net = Net([H, H], [(0, 1, 0)], error=5)
        plan = [(Stream(2, 1, 30, [0, 1]), [0])]
        self.assert_run(net, plan, 3, [(-4, 0, 0), (-2, 0, 1), (0, 0, 2)], errors=[-5, 0])
        net = Net([H, S, H], [(0, 1, 0), (1, 2, 0)], error=5)
        plan = [(Stream(2, 1, 30, [0, 1, 2]), [0, 1])]
        self.assert_run(net, plan, 2, [(-3, 0, 0), (-1, 0, 1)], errors=[-5, -5, 5])
        self.assert_run(net, plan, 2, [], ("absent", -2, (1, 2)), errors=[-2, -3, 0])

    def test_no_entries(self):
        self.assert_run(row(), [], 1, [])
        self.assert_run(row(), [], 200, [], errors=[0, 0, 0], broken=(0, 1))


class BusyTest(SimulationTest):
    def plan(self, offset, other):
        return [(Stream(10, 3, 300, [0, 1, 2]), [offset, 90]), (Stream(10, 3, 300, [0, 1, 3]), [other, 95])]

    def test_first_port(self):
        for other in (0, 1, 2):
            self.assert_run(fork(), self.plan(0, other), 1, [], ("busy", other, (0, 1)))
        for other in (3, 4, 9):
            self.assert_run(fork(), self.plan(0, other), 1, [(93, 0, 0), (98, 1, 0)])

    def test_later_window_is_named_whatever_its_entry(self):
        self.assert_break(fork(), self.plan(7, 5), ("busy", 7, (0, 1)))
        self.assert_break(fork(), self.plan(5, 7), ("busy", 7, (0, 1)))

    def test_later_port(self):
        plan = [(Stream(10, 3, 300, [0, 1, 2]), [0, 3]), (Stream(10, 3, 300, [3, 1, 2]), [2, 5])]
        self.assert_run(fork(), plan, 1, [], ("busy", 5, (1, 2)))

    def test_later_frame(self):
        net = Net([H, H], [(0, 1, 0)])
        plan = [(Stream(6, 2, 300, [0, 1]), [0]), (Stream(5, 1, 300, [0, 1]), [2])]
        self.assert_run(net, plan, 2, [(2, 0, 0), (3, 1, 0)], ("busy", 7, (0, 1)))

    def test_both_directions_of_a_line_are_independent(self):
        net = Net([H, H], [(0, 1, 0)])
        plan = [(Stream(6, 6, 300, [0, 1]), [0]), (Stream(6, 6, 300, [1, 0]), [0])]
        self.assert_run(net, plan, 2, [(6, 0, 0), (6, 1, 0), (12, 0, 1), (12, 1, 1)])

    def test_frames_of_one_entry_follow_each_other(self):
        self.assert_run(fork(), [(Stream(3, 3, 300, [0, 1, 2]), [0, 3])], 3, [(6, 0, 0), (9, 0, 1), (12, 0, 2)])

    def test_clock_errors_shift_the_windows(self):
        net = Net([H, S, H, H], [(0, 1, 0), (1, 2, 0), (3, 1, 0)], error=2)
        plan = [(Stream(20, 3, 300, [0, 1, 2]), [0, 7]), (Stream(20, 3, 300, [3, 1, 2]), [6, 9])]
        self.assert_break(net, plan, ("busy", 11, (1, 2)), errors=[0, 2, 0, 0])
        self.assert_break(net, plan, ("busy", 8, (1, 2)), errors=[0, -1, 0, -2])


class QueueTest(SimulationTest):
    def test_two_frames(self):
        plan = [(Stream(20, 3, 300, [0, 1, 2]), [0, 3]), (Stream(20, 3, 300, [3, 1, 2]), [0, 6])]
        self.assert_run(fork(), plan, 1, [], ("queue", 3, (1, 2)))
        plan[1] = (plan[1][0], [1, 6])
        self.assert_run(fork(), plan, 1, [(6, 0, 0), (9, 1, 0)])

    def test_frame_that_comes_while_another_one_waits(self):
        plan = [(Stream(30, 3, 300, [0, 1, 2]), [0, 10]), (Stream(30, 3, 300, [3, 1, 2]), [6, 20])]
        self.assert_run(fork(), plan, 1, [], ("queue", 9, (1, 2)))

    def test_frame_that_comes_when_another_one_leaves(self):
        plan = [(Stream(30, 3, 300, [0, 1, 2]), [0, 10]), (Stream(30, 3, 300, [3, 1, 2]), [7, 20])]
        self.assert_run(fork(), plan, 1, [(13, 0, 0), (23, 1, 0)])
        self.assert_run(fork(), plan[::-1], 1, [(13, 1, 0), (23, 0, 0)])

    def test_two_frames_of_one_entry(self):
        self.assert_run(fork(), [(Stream(10, 3, 300, [0, 1, 2]), [0, 13])], 2, [(16, 0, 0), (26, 0, 1)])
        self.assert_run(fork(), [(Stream(10, 3, 300, [0, 1, 2]), [0, 14])], 2, [], ("queue", 13, (1, 2)))
        self.assert_run(fork(), [(Stream(10, 3, 300, [0, 1, 2]), [0, 14])], 1, [(17, 0, 0)])

    def test_each_port_has_a_queue_of_its_own(self):
        plan = [(Stream(20, 3, 300, [0, 1, 2]), [0, 9]), (Stream(20, 3, 300, [3, 1, 0]), [0, 9])]
        self.assert_run(fork(), plan, 1, [(12, 0, 0), (12, 1, 0)])

    def test_least_port(self):
        def plan(*goals):
            return [(Stream(40, 2, 300, [host, 0, goal]), [0, 9]) for host, goal in enumerate(goals, 1)]

        self.assert_break(hub(), plan(8, 8, 7, 7), ("queue", 2, (0, 7)))
        self.assert_break(hub(), plan(7, 7, 8, 8), ("queue", 2, (0, 7)))
        self.assert_break(hub(11), plan(10, 10, 9, 9), ("queue", 2, (0, 9)))
        net = Net([S, S] + [H] * 6, [(0, 2, 0), (0, 3, 0), (0, 7, 0), (1, 4, 0), (1, 5, 0), (1, 6, 0)])
        paths = [[4, 1, 6], [5, 1, 6], [2, 0, 7], [3, 0, 7]]
        self.assert_break(net, [(Stream(40, 2, 300, path), [0, 9]) for path in paths], ("queue", 2, (0, 7)))


class AbsentTest(SimulationTest):
    def test_frame_that_comes_too_late(self):
        plan = [(Stream(10, 3, 300, [0, 1, 2]), [0, 2])]
        self.assert_run(fork(), plan, 3, [], ("absent", 2, (1, 2)))
        self.assert_run(fork(), [(Stream(10, 3, 300, [0, 1, 2]), [9, 0])], 1, [], ("absent", 0, (1, 2)))

    def test_frame_that_comes_at_the_tick_of_its_window(self):
        self.assert_run(fork(), [(Stream(10, 3, 300, [0, 1, 2]), [0, 3])], 1, [(6, 0, 0)])

    def test_another_frame_in_the_queue(self):
        plan = [(Stream(30, 3, 300, [0, 1, 2]), [0, 20]), (Stream(30, 3, 300, [3, 1, 2]), [9, 10])]
        self.assert_run(fork(), plan, 1, [], ("absent", 10, (1, 2)))
        self.assert_run(fork(), plan[::-1], 1, [], ("absent", 10, (1, 2)))

    def test_port_is_occupied_since_the_same_tick(self):
        # The frame of entry 0 comes when its window opens, and so does the window of entry 1, whose frame is there.
        plan = [(Stream(30, 3, 300, [0, 1, 2]), [5, 8]), (Stream(30, 3, 300, [3, 1, 2]), [0, 8])]
        self.assert_run(fork(), plan, 1, [], ("absent", 8, (1, 2)))
        self.assert_run(fork(), plan[::-1], 1, [], ("busy", 8, (1, 2)))

    def test_both_frames_come_at_the_tick_of_their_windows(self):
        plan = [(Stream(30, 3, 300, [0, 1, 2]), [0, 3]), (Stream(30, 3, 300, [3, 1, 2]), [0, 3])]
        self.assert_run(fork(), plan, 1, [], ("queue", 3, (1, 2)))

    def test_later_hop(self):
        net = line_of_switches()
        self.assert_run(net, [(Stream(30, 2, 300, [0, 1, 2, 3, 4]), [0, 2, 4, 6])], 1, [(8, 0, 0)])
        self.assert_break(net, [(Stream(30, 2, 300, [0, 1, 2, 3, 4]), [0, 2, 4, 5])], ("absent", 5, (3, 4)))
        self.assert_break(net, [(Stream(30, 2, 300, [0, 1, 2, 3, 4]), [0, 3, 4, 9])], ("absent", 4, (2, 3)))


class SameTickTest(SimulationTest):
    """Several breaks at one tick: the one that the steps find first."""

    def test_busy_before_queue(self):
        queue = [(Stream(40, 2, 300, [1, 0, 4]), [1, 9]), (Stream(40, 2, 300, [2, 0, 4]), [1, 12])]
        busy = [(Stream(40, 3, 300, [8, 0, 7]), [2, 9]), (Stream(40, 3, 300, [8, 0, 6]), [3, 9])]
        self.assert_break(hub(), queue, ("queue", 3, (0, 4)))
        self.assert_break(hub(), busy, ("busy", 3, (8, 0)))
        self.assert_break(hub(), queue + busy, ("busy", 3, (8, 0)))
        self.assert_break(hub(), busy + queue, ("busy", 3, (8, 0)))

    def test_busy_before_absent(self):
        absent = [(Stream(40, 2, 300, [1, 0, 4]), [9, 3])]
        busy = [(Stream(40, 3, 300, [8, 0, 7]), [2, 9]), (Stream(40, 3, 300, [8, 0, 6]), [3, 9])]
        self.assert_break(hub(), absent + busy, ("busy", 3, (8, 0)))
        self.assert_break(hub(), busy + absent, ("busy", 3, (8, 0)))

    def test_queue_before_absent(self):
        absent = [(Stream(40, 2, 300, [1, 0, 4]), [9, 3])]
        queue = [(Stream(40, 2, 300, [2, 0, 7]), [1, 9]), (Stream(40, 2, 300, [3, 0, 7]), [1, 12])]
        self.assert_break(hub(), absent, ("absent", 3, (0, 4)))
        self.assert_break(hub(), absent + queue, ("queue", 3, (0, 7)))
        self.assert_break(hub(), queue + absent, ("queue", 3, (0, 7)))

    def test_busy_by_entry(self):
        def entry(host, goal, offset):
            return (Stream(40, 3, 300, [host, 0, goal]), [offset, 30])

        first, second = [entry(1, 4, 0), entry(1, 5, 2)], [entry(2, 6, 1), entry(2, 7, 2)]
        self.assert_break(hub(), first + second, ("busy", 2, (1, 0)))
        self.assert_break(hub(), second + first, ("busy", 2, (2, 0)))
        self.assert_break(hub(), [first[0], second[0], second[1], first[1]], ("busy", 2, (2, 0)))

    def test_busy_by_hop_of_an_entry(self):
        net = line_of_switches()
        plan = [
            (Stream(40, 4, 300, [5, 1, 2, 6]), [0, 8, 30]),
            (Stream(40, 4, 300, [6, 2, 3, 7]), [1, 9, 30]),
            (Stream(40, 4, 300, [0, 1, 2, 3, 4]), [5, 10, 10, 20]),
        ]
        self.assert_break(net, plan, ("busy", 10, (1, 2)))
        self.assert_break(net, plan[1:], ("busy", 10, (2, 3)))

    def test_absent_by_entry(self):
        plan = [(Stream(40, 3, 300, [1, 0, 8]), [9, 4]), (Stream(40, 3, 300, [2, 0, 7]), [9, 4])]
        self.assert_break(hub(), plan, ("absent", 4, (0, 8)))
        self.assert_break(hub(), plan[::-1], ("absent", 4, (0, 7)))

    def test_absent_by_hop_of_an_entry(self):
        net = line_of_switches()
        self.assert_break(net, [(Stream(40, 3, 300, [4, 3, 2, 1, 0]), [9, 4, 4, 4])], ("absent", 4, (3, 2)))
        self.assert_break(net, [(Stream(40, 3, 300, [4, 3, 2, 1, 0]), [0, 4, 4, 4])], ("absent", 4, (2, 1)))

    def test_windows_before_one_that_breaks_are_passed(self):
        # Entry 0 sends at the tick of the break, but that frame arrives later.
        plan = [(Stream(40, 1, 300, [1, 0, 8]), [0, 4]), (Stream(40, 3, 300, [2, 0, 7]), [9, 4])]
        self.assert_run(hub(), plan, 1, [], ("absent", 4, (0, 7)))


class DeliveriesTest(SimulationTest):
    def test_ascending_order(self):
        net = hub()
        plan = [
            (Stream(20, 2, 300, [1, 0, 5]), [8, 10]),
            (Stream(10, 2, 300, [2, 0, 6]), [0, 2]),
            (Stream(20, 1, 300, [3, 0, 7]), [1, 3]),
            (Stream(10, 2, 300, [4, 0, 8]), [8, 10]),
        ]
        self.assert_run(
            net, plan, 2,
            [(4, 1, 0), (4, 2, 0), (12, 0, 0), (12, 3, 0), (14, 1, 1), (22, 3, 1), (24, 2, 1), (32, 0, 1)],
        )

    def test_frames_of_one_entry_over_another(self):
        net = Net([H, H, H], [(0, 1, 20), (1, 2, 0)])
        plan = [(Stream(5, 1, 300, [0, 1]), [0]), (Stream(7, 7, 300, [2, 1]), [0])]
        self.assert_run(
            net, plan, 3, [(7, 1, 0), (14, 1, 1), (21, 0, 0), (21, 1, 2), (26, 0, 1), (31, 0, 2)]
        )

    def test_up_to_the_tick_of_a_break(self):
        breaking = (Stream(40, 3, 300, [1, 0, 8]), [30, 21])
        for arrival, expected in ((20, True), (21, True), (22, False), (25, False)):
            plan = [breaking, (Stream(40, 5, 300, [2, 0, 7]), [arrival - 10, arrival - 5])]
            self.assert_run(hub(), plan, 1, [(arrival, 1, 0)] if expected else [], ("absent", 21, (0, 8)))

    def test_up_to_the_tick_of_a_break_of_another_kind(self):
        early = (Stream(40, 2, 300, [3, 0, 5]), [0, 3])
        busy = [(Stream(40, 3, 300, [1, 0, 8]), [4, 30]), (Stream(40, 3, 300, [1, 0, 7]), [5, 30])]
        self.assert_run(hub(), [early] + busy, 1, [(5, 0, 0)], ("busy", 5, (1, 0)))
        late = (early[0], [0, 4])
        self.assert_run(hub(), [late] + busy, 1, [], ("busy", 5, (1, 0)))
        queue = [(Stream(40, 2, 300, [1, 0, 8]), [3, 30]), (Stream(40, 2, 300, [2, 0, 8]), [3, 35])]
        self.assert_run(hub(), [early] + queue, 1, [(5, 0, 0)], ("queue", 5, (0, 8)))
        self.assert_run(hub(), [late] + queue, 1, [], ("queue", 5, (0, 8)))


class BrokenLineTest(SimulationTest):
    def assert_broken(self, net, plan, count, line, deliveries, fault=None):
        self.assert_run(net, plan, count, deliveries, fault, broken=line)
        self.assert_run(net, plan, count, deliveries, fault, broken=line[::-1])

    def setUp(self):
        self.net = line_of_switches()
        self.plan = [
            (Stream(40, 2, 300, [0, 1, 2, 3, 4]), [0, 2, 4, 6]),
            (Stream(20, 2, 300, [4, 3, 2, 6]), [0, 10, 12]),
            (Stream(40, 2, 300, [5, 1, 0]), [0, 2]),
        ]
        self.first, self.second, self.third = [(8, 0, 0)], [(14, 1, 0), (34, 1, 1)], [(4, 2, 0)]

    def test_no_broken_line(self):
        self.assert_run(self.net, self.plan, 1, [(4, 2, 0), (8, 0, 0), (14, 1, 0)], broken=None)

    def test_each_line(self):
        first, second, third = [(8, 0, 0), (48, 0, 1)], [(14, 1, 0), (34, 1, 1)], [(4, 2, 0), (44, 2, 1)]
        for line, deliveries in (
            ((0, 1), second),
            ((1, 2), second + third),
            ((2, 3), third),
            ((3, 4), third),
            ((2, 6), first + third),
            ((1, 5), first + second),
            ((3, 7), first + second + third),
        ):
            self.assert_broken(self.net, self.plan, 2, line, sorted(deliveries))

    def test_frame_to_a_host_that_is_lost(self):
        self.assert_broken(Net([H, H], [(0, 1, 0)]), [(Stream(4, 2, 30, [0, 1]), [0])], 5, (1, 0), [])

    def test_lost_frames_are_missing_in_no_queue(self):
        # The frame of entry 0 would be too much in the queue of entry 1, if it came.
        plan = [(Stream(20, 3, 300, [0, 1, 2]), [0, 9]), (Stream(20, 3, 300, [3, 1, 2]), [2, 6])]
        self.assert_break(fork(), plan, ("queue", 5, (1, 2)))
        self.assert_broken(fork(), plan, 1, (0, 1), [(9, 1, 0)])

    def test_lost_frames_occupy_no_port_behind(self):
        plan = [(Stream(20, 3, 300, [0, 1, 2]), [0, 3]), (Stream(20, 3, 300, [3, 1, 2]), [2, 5])]
        self.assert_break(fork(), plan, ("busy", 5, (1, 2)))
        self.assert_broken(fork(), plan, 1, (0, 1), [(8, 1, 0)])

    def test_frame_occupies_the_port_of_the_broken_line(self):
        plan = [(Stream(20, 3, 300, [0, 1, 2]), [0, 3]), (Stream(20, 3, 300, [0, 1, 3]), [2, 5])]
        self.assert_broken(fork(), plan, 1, (0, 1), [], ("busy", 2, (0, 1)))

    def test_window_of_a_lost_frame_at_an_occupied_port(self):
        plan = [(Stream(20, 3, 300, [0, 1, 2]), [0, 3]), (Stream(20, 3, 300, [3, 1, 2]), [1, 4])]
        self.assert_broken(fork(), plan, 1, (1, 3), [], ("busy", 4, (1, 2)))
        self.assert_broken(fork(), plan[::-1], 1, (1, 3), [], ("busy", 4, (1, 2)))

    def test_window_of_a_lost_frame_before_another_one(self):
        plan = [(Stream(20, 3, 300, [0, 1, 2]), [0, 5]), (Stream(20, 3, 300, [3, 1, 2]), [2, 5])]
        self.assert_broken(fork(), plan, 1, (0, 1), [(8, 1, 0)])
        self.assert_broken(fork(), plan[::-1], 1, (0, 1), [(8, 0, 0)])

    def test_window_that_opens_before_the_frame_is_lost(self):
        plan = [(Stream(20, 3, 300, [0, 1, 2]), [5, 4])]
        self.assert_broken(fork(), plan, 1, (0, 1), [], ("absent", 4, (1, 2)))
        plan = [(Stream(20, 3, 300, [0, 1, 2]), [5, 5])]
        self.assert_broken(fork(), plan, 1, (0, 1), [])

    def test_window_that_waits_when_the_frame_is_lost(self):
        # The frame comes to the first switch at tick 3, is sent in step 4, and the window behind it waits already.
        plan = [(Stream(20, 3, 300, [0, 1, 2, 3, 4]), [0, 3, 3, 9])]
        self.assert_broken(line_of_switches(), plan, 1, (1, 2), [], ("absent", 3, (2, 3)))

    def test_each_frame_is_lost_by_itself(self):
        plan = [(Stream(5, 3, 300, [0, 1, 2]), [0, 4])]
        self.assert_broken(fork(), plan, 4, (0, 1), [])
        self.assert_broken(fork(), plan, 4, (3, 1), [(7, 0, 0), (12, 0, 1), (17, 0, 2), (22, 0, 3)])


class PlansWithoutFaultTest(unittest.TestCase):
    def plans(self, nets, error, many, numbers):
        """Some plans without a fault, and their nets."""
        found = []
        while len(found) < many:
            net = numbers.choice(nets)(numbers.randint(0, 2), error)
            plan = [some_entry(net, numbers, (0, 0, 1, 2, 5)) for _ in range(numbers.randint(1, 4))]
            if judge(net, plan) is None:
                found.append((net, plan))
        return found

    def expected(self, net, plan, errors, count, broken=None):
        """The deliveries of 05.3."""
        deliveries = []
        for number, (stream, offsets) in enumerate(plan):
            lines = [{a, b} for a, b in zip(stream.path, stream.path[1:])]
            before, last = stream.path[-2:]
            arrival = offsets[-1] + stream.length + net.delay(before, last)
            if broken is None or set(broken) not in lines:
                deliveries += [(k * stream.period + arrival + errors[before], number, k) for k in range(count)]
        return sorted(deliveries)

    def check(self, net, plan, errors, count, broken=None):
        run = simulate(net, plan, errors, count, broken=broken)
        self.assertIsNone(run.fault)
        self.assertEqual(run.deliveries, self.expected(net, plan, errors, count, broken))
        for tick, number, k in run.deliveries:
            stream = plan[number][0]
            self.assertLessEqual(tick, k * stream.period + stream.deadline)

    def test_all_clock_errors(self):
        numbers = random.Random(1)
        for error, many in ((0, 60), (1, 30), (2, 6)):
            for net, plan in self.plans((star,), error, many, numbers):
                for errors in all_errors(net):
                    self.check(net, plan, list(errors), 8)

    def test_some_clock_errors(self):
        numbers = random.Random(2)
        for error in (0, 1, 2):
            for net, plan in self.plans((chain, ring), error, 40, numbers):
                for _ in range(20):
                    self.check(net, plan, some_errors(net, numbers), 15)

    def test_a_broken_line(self):
        numbers = random.Random(3)
        for error in (0, 1, 2):
            for net, plan in self.plans((star, chain, ring), error, 40, numbers):
                for a, b, _ in net.lines:
                    self.check(net, plan, some_errors(net, numbers), 15, (a, b))
                    self.check(net, plan, some_errors(net, numbers), 15, (b, a))


class ManyPlansTest(unittest.TestCase):
    def test_against_the_plain_simulation(self):
        numbers = random.Random(4)
        seen = {}
        for _ in range(1500):
            net = numbers.choice((star, chain, ring))(numbers.randint(0, 2), numbers.choice((0, 1, 2)))
            slacks = numbers.choice(((0,), (0, 0, 1, 2), (-2, -1, 0, 0, 0, 1, 2, 9)))
            plan = [some_entry(net, numbers, slacks) for _ in range(numbers.randint(0, 4))]
            errors = some_errors(net, numbers)
            broken = numbers.choice([None] + [line[:2] for line in net.lines])
            run = simulate(net, plan, errors, 8, broken=broken)
            self.assertEqual((run.deliveries, run.fault), plain_simulate(net, plan, errors, 8, broken))
            kind = run.fault and run.fault[0]
            seen[kind] = seen.get(kind, 0) + 1
        self.assertEqual(set(seen), {"busy", "queue", "absent", None})
        self.assertGreater(min(seen.values()), 50)


class SimulationExampleTest(unittest.TestCase):
    def test_example(self):
        net = Net(["host", "switch", "host"], [(0, 1, 2), (1, 2, 3)], processing=1)
        run = simulate(net, [(Stream(10, 4, 30, [0, 1, 2]), [0, 7])], [0, 0, 0], 2)
        self.assertEqual([run.deliveries, run.fault], [[(14, 0, 0), (24, 0, 1)], None])
        run = simulate(net, [(Stream(10, 4, 30, [0, 1, 2]), [0, 6])], [0, 0, 0], 2)
        self.assertEqual(run.fault, ("absent", 6, (1, 2)))


class ArgumentsTest(unittest.TestCase):
    def test_no_function_changes_its_arguments(self):
        net = Net([H, S, H, H], [(0, 1, 0), (1, 2, 0), (3, 1, 0)], error=1)
        errors = [1, -1, 0, 1]
        for offsets, others in (([0, 5], [4, 9]), ([0, 3], [4, 9]), ([0, 9], [0, 13]), ([0, 5], [2, 7])):
            plan = [(Stream(20, 3, 300, [0, 1, 2]), offsets), (Stream(20, 3, 300, [3, 1, 2]), others)]
            for broken in (None, (0, 1)):
                before = copy.deepcopy([vars(net), plan, errors])
                simulate(net, plan, errors, 3, broken=broken)
                self.assertEqual([vars(net), plan, errors], before)

    def test_broken_is_passed_by_keyword_only(self):
        with self.assertRaises(TypeError):
            simulate(fork(), [], [0, 0, 0, 0], 1, (0, 1))


if __name__ == "__main__":
    unittest.main()
