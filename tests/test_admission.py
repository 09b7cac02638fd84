import copy
import itertools
import random
import unittest

from metronet.admission import Ledger, admit
from metronet.judging import judge
from metronet.nets import Net
from metronet.plans import Stream, arrival_of
from metronet.simulation import simulate
from tests.plain_judging import all_faults
from tests.small_plans import chain, paths_of, ring, some_entry, some_errors, star

H, S = "host", "switch"


def fork(error=0):
    """Hosts 0, 2 and 3 around the switch 1, without delays."""
    return Net([H, S, H, H], [(0, 1, 0), (1, 2, 0), (3, 1, 0)], error=error)


def crowded(error=0):
    """Four hosts around two switches, 1 and 2."""
    lines = [(0, 1, 0), (4, 1, 0), (1, 2, 0), (2, 3, 0), (2, 5, 0)]
    return Net([H, S, S, H, H, H], lines, error=error)


def plain_admit(net, plan, stream):
    """The first list of offsets without a fault, by trying every list."""
    # With an offset that is not less than the deadline, a frame is late.
    for offsets in itertools.product(range(stream.deadline), repeat=len(stream.path) - 1):
        if judge(net, plan + [(stream, list(offsets))]) is None:
            return list(offsets)
    return None


class AdmitTest(unittest.TestCase):
    def assert_admitted(self, net, plan, stream, expected):
        self.assertEqual(all_faults(net, plan), [])
        self.assertEqual(admit(net, plan, stream), expected)
        self.assertEqual(plain_admit(net, plan, stream), expected)

    def test_empty_plan(self):
        self.assert_admitted(fork(), [], Stream(10, 3, 20, [0, 1, 2]), [0, 3])
        self.assert_admitted(fork(2), [], Stream(10, 3, 20, [0, 1, 2]), [0, 7])
        self.assert_admitted(crowded(), [], Stream(10, 3, 20, [0, 1, 2, 3]), [0, 3, 6])
        net = Net([H, S, H], [(0, 1, 2), (2, 1, 3)], processing=4, error=1)
        self.assert_admitted(net, [], Stream(30, 2, 30, [2, 1, 0]), [0, 11])

    def test_path_without_a_switch(self):
        net = Net([H, H], [(0, 1, 5)], processing=3, error=2)
        self.assert_admitted(net, [], Stream(8, 3, 10, [1, 0]), [0])
        self.assert_admitted(net, [], Stream(8, 3, 9, [1, 0]), None)
        other = (Stream(8, 3, 60, [1, 0]), [6])
        self.assert_admitted(net, [other], Stream(8, 3, 11, [1, 0]), [1])
        self.assert_admitted(net, [other], Stream(8, 3, 60, [0, 1]), [0])
        self.assert_admitted(net, [other], Stream(8, 3, 10, [1, 0]), None)
        self.assert_admitted(net, [other], Stream(4, 2, 60, [1, 0]), None)
        self.assert_admitted(net, [other], Stream(4, 1, 60, [1, 0]), [1])

    def test_deadline(self):
        for error in (0, 1, 2):
            least = 6 + 3 * error
            self.assert_admitted(fork(error), [], Stream(10, 3, least, [0, 1, 2]), [0, 3 + 2 * error])
            self.assert_admitted(fork(error), [], Stream(10, 3, least - 1, [0, 1, 2]), None)
        self.assert_admitted(fork(), [], Stream(60, 1, 1, [0, 1, 2]), None)

    def test_line_that_is_busy(self):
        plan = [(Stream(10, 3, 20, [0, 1, 2]), [0, 3])]
        self.assert_admitted(fork(), plan, Stream(10, 3, 20, [0, 1, 3]), [3, 6])
        self.assert_admitted(fork(), plan, Stream(10, 7, 20, [0, 1, 3]), [3, 10])
        self.assert_admitted(fork(), plan, Stream(10, 8, 20, [0, 1, 3]), None)
        self.assert_admitted(fork(), plan, Stream(5, 2, 20, [0, 1, 3]), [3, 5])
        self.assert_admitted(fork(), plan, Stream(7, 1, 20, [0, 1, 3]), None)

    def test_queue_that_is_not_empty(self):
        # From 0 on, the frame would wait from 1 to 3 while the other one comes at 3 and leaves at 5.
        plan = [(Stream(20, 3, 20, [0, 1, 2]), [0, 5])]
        self.assert_admitted(fork(), plan, Stream(20, 1, 20, [3, 1, 2]), [0, 1])
        plan = [(Stream(20, 3, 20, [0, 1, 2]), [0, 3])]
        self.assert_admitted(fork(), plan, Stream(20, 4, 20, [3, 1, 2]), [0, 6])
        # Two frames wait in turn, at the ticks 1 and 3 to 4, and the line is busy at 1 and from 5 to 7.
        plan = [(Stream(20, 3, 20, [0, 1, 2]), [0, 5]), (Stream(20, 1, 20, [3, 1, 2]), [0, 1])]
        self.assert_admitted(fork(), plan, Stream(20, 2, 20, [3, 1, 2]), [3, 8])
        self.assert_admitted(fork(), plan, Stream(20, 3, 20, [3, 1, 2]), [2, 8])
        self.assert_admitted(fork(), plan, Stream(20, 3, 10, [3, 1, 2]), None)

    def test_wait_over_the_frame_of_another_entry(self):
        # The line is free at 8 and 9 of each period only; the other frame stands in the queue at 10.
        plan = [(Stream(10, 8, 60, [0, 1, 2]), [2, 10])]
        self.assert_admitted(fork(), plan, Stream(10, 2, 60, [3, 1, 2]), [0, 8])
        self.assert_admitted(fork(), plan, Stream(10, 2, 10, [3, 1, 2]), [0, 8])
        self.assert_admitted(fork(), plan, Stream(10, 2, 9, [3, 1, 2]), None)
        self.assert_admitted(fork(), plan, Stream(10, 3, 60, [3, 1, 2]), None)

    def test_least_next_offset_that_leads_to_no_end(self):
        # From 1 at the second port the frame would come to the third one at 2, where the other frame waits.
        plan = [(Stream(10, 1, 60, [4, 1, 2, 3]), [5, 9, 13])]
        self.assert_admitted(crowded(), plan, Stream(10, 1, 20, [0, 1, 2, 3]), [0, 2, 4])

    def test_least_offset_that_leads_to_no_end(self):
        # From 0, 1 or 2 on, the frame would wait from 3, 4 or 5 to 6, while the other frame comes at 5.
        plan = [(Stream(10, 2, 60, [4, 1, 2, 5]), [3, 5, 8])]
        self.assert_admitted(crowded(), plan, Stream(10, 3, 20, [0, 1, 2, 3]), [3, 7, 10])
        self.assert_admitted(crowded(), plan, Stream(10, 3, 13, [0, 1, 2, 3]), [3, 7, 10])
        self.assert_admitted(crowded(), plan, Stream(10, 3, 12, [0, 1, 2, 3]), None)

    def test_last_port_is_free_much_later(self):
        plan = [(Stream(20, 9, 60, [4, 1, 2, 3]), [0, 9, 18])]
        self.assert_admitted(crowded(), plan, Stream(10, 1, 18, [0, 1, 2, 3]), [0, 8, 17])
        self.assert_admitted(crowded(), plan, Stream(10, 1, 17, [0, 1, 2, 3]), None)

    def test_example_of_the_document(self):
        plan = [(Stream(10, 3, 20, [0, 1, 2]), [0, 3])]
        self.assert_admitted(fork(), plan, Stream(10, 3, 20, [3, 1, 2]), [1, 6])
        self.assert_admitted(fork(), plan, Stream(5, 3, 20, [3, 1, 2]), None)

    def test_other_direction(self):
        plan = [(Stream(10, 9, 60, [0, 1, 2]), [0, 9])]
        self.assert_admitted(fork(), plan, Stream(10, 9, 30, [2, 1, 0]), [0, 9])

    def test_least_period(self):
        self.assert_admitted(fork(), [], Stream(1, 1, 8, [0, 1, 2]), [0, 1])
        self.assert_admitted(fork(1), [], Stream(1, 1, 20, [0, 1, 2]), None)
        self.assert_admitted(fork(1), [], Stream(4, 1, 20, [0, 1, 2]), [0, 3])
        self.assert_admitted(fork(1), [], Stream(3, 1, 20, [0, 1, 2]), None)

    def try_many(self, seed, nets, most, deadlines, times):
        numbers = random.Random(seed)
        admitted = refused = 0
        while admitted < times or refused < times:
            net = numbers.choice(nets)(numbers.randint(0, 1), numbers.choice((0, 0, 1)))
            plan = [some_entry(net, numbers, (0, 0, 1, 2)) for _ in range(numbers.randint(0, 3))]
            path = numbers.choice([path for path in paths_of(net) if len(path) <= most])
            period = numbers.choice((3, 4, 6, 8, 12))
            stream = Stream(period, numbers.randint(1, min(4, period)), numbers.choice(deadlines), path)
            if judge(net, plan) is not None:
                continue
            expected = plain_admit(net, plan, stream)
            self.assertEqual(admit(net, plan, stream), expected, [vars(stream)] + [vars(row[0]) for row in plan])
            admitted += expected is not None
            refused += expected is None

    def test_every_list_with_two_ports(self):
        self.try_many(1, (star, chain), 3, (6, 10, 16, 24), 150)

    def test_every_list_with_three_ports(self):
        self.try_many(2, (chain, ring), 4, (9, 12, 16), 40)

    def test_every_list_with_four_ports(self):
        self.try_many(3, (ring,), 5, (8, 10), 12)

    def test_longest_path_in_a_full_net(self):
        count = 12
        lines = [(node, node + 1, 1) for node in range(count - 1)]
        net = Net([H] + [S] * (count - 2) + [H], lines, processing=1)
        path = list(range(count))
        ledger = Ledger(net)
        for number in range(30):
            ledger.request(f"forth {number}", Stream(60, 2, 120, path))
            ledger.request(f"back {number}", Stream(30, 1, 120, path[::-1]))
        self.assertEqual([name for name in ledger.names() if name.startswith("forth")], [
            f"forth {number}" for number in range(30)
        ])
        self.assertEqual(len(ledger.names()), 60)
        self.assertIsNone(ledger.request("more", Stream(60, 1, 120, path)))
        self.assertIsNone(judge(net, ledger.plan()))


class LedgerTest(unittest.TestCase):
    def setUp(self):
        self.ledger = Ledger(fork())
        self.stream = Stream(10, 3, 20, [0, 1, 2])
        self.other = Stream(10, 3, 20, [3, 1, 2])

    def test_empty(self):
        self.assertEqual(self.ledger.names(), [])
        self.assertEqual(self.ledger.plan(), [])

    def test_request(self):
        self.assertEqual(self.ledger.request("a", self.stream), [0, 3])
        self.assertEqual(self.ledger.request("b", self.other), [1, 6])
        self.assertEqual(self.ledger.names(), ["a", "b"])
        self.assertEqual(self.ledger.plan(), [(self.stream, [0, 3]), (self.other, [1, 6])])
        self.assertIsInstance(self.ledger.plan()[0], tuple)

    def test_request_that_does_not_fit(self):
        self.ledger.request("a", self.stream)
        self.assertIsNone(self.ledger.request("b", Stream(5, 3, 20, [3, 1, 2])))
        self.assertEqual(self.ledger.names(), ["a"])
        self.assertEqual(self.ledger.plan(), [(self.stream, [0, 3])])
        self.assertFalse(self.ledger.release("b"))

    def test_request_under_a_name_that_is_there(self):
        self.ledger.request("a", self.stream)
        for stream in (self.stream, self.other, Stream(10, 1, 20, [2, 1, 0])):
            self.assertIsNone(self.ledger.request("a", stream))
        self.assertEqual(self.ledger.names(), ["a"])
        self.assertEqual(self.ledger.plan(), [(self.stream, [0, 3])])

    def test_same_stream_under_several_names(self):
        self.assertEqual(self.ledger.request("a", self.stream), [0, 3])
        self.assertEqual(self.ledger.request("b", self.stream), [3, 6])
        self.assertEqual(self.ledger.request("c", self.stream), [6, 9])
        self.assertIsNone(self.ledger.request("d", self.stream))
        self.assertTrue(self.ledger.release("b"))
        self.assertEqual(self.ledger.request("d", self.stream), [3, 6])
        self.assertEqual(self.ledger.names(), ["a", "c", "d"])

    def test_release(self):
        self.ledger.request("a", self.stream)
        self.ledger.request("b", self.other)
        self.assertIs(self.ledger.release("a"), True)
        self.assertEqual(self.ledger.names(), ["b"])
        self.assertEqual(self.ledger.plan(), [(self.other, [1, 6])])
        self.assertIs(self.ledger.release("a"), False)
        self.assertEqual(self.ledger.names(), ["b"])
        self.assertIs(self.ledger.release("b"), True)
        self.assertEqual([self.ledger.names(), self.ledger.plan()], [[], []])

    def test_release_of_a_name_that_is_not_there(self):
        self.assertIs(self.ledger.release("a"), False)
        self.ledger.request("a", self.stream)
        for name in ("", "A", "a ", "aa"):
            self.assertIs(self.ledger.release(name), False)
        self.assertEqual(self.ledger.plan(), [(self.stream, [0, 3])])

    def test_any_string_is_a_name(self):
        names = ["", "a", "A", " ", "9", "line\n"]
        for number, name in enumerate(names):
            self.assertIsNotNone(self.ledger.request(name, Stream(60, 1, 60, [0, 1, 2])), number)
        self.assertEqual(self.ledger.names(), names)

    def test_name_that_comes_again_stands_at_the_end(self):
        for name in ("c", "a", "b"):
            self.ledger.request(name, Stream(10, 1, 30, [0, 1, 2]))
        self.assertEqual(self.ledger.names(), ["c", "a", "b"])
        self.ledger.release("a")
        self.ledger.request("c", self.other)
        self.assertEqual(self.ledger.names(), ["c", "b"])
        self.assertEqual(self.ledger.request("a", Stream(10, 1, 30, [0, 1, 2])), [1, 2])
        self.assertEqual(self.ledger.names(), ["c", "b", "a"])
        self.assertEqual([offsets for _, offsets in self.ledger.plan()], [[0, 1], [2, 3], [1, 2]])

    def test_entries_keep_their_offsets(self):
        for name in ("a", "b", "c"):
            self.ledger.request(name, Stream(10, 2, 30, [0, 1, 2]))
        self.ledger.release("a")
        self.assertEqual([offsets for _, offsets in self.ledger.plan()], [[2, 4], [4, 6]])

    def test_lists_that_the_caller_changes(self):
        offsets = self.ledger.request("a", self.stream)
        offsets[0] = 9
        offsets.append(7)
        self.assertEqual(self.ledger.plan(), [(self.stream, [0, 3])])
        self.ledger.names().append("b")
        self.assertEqual(self.ledger.names(), ["a"])
        plan = self.ledger.plan()
        plan[0][1][0] = 9
        plan[0][1].append(7)
        plan[0][0].path.reverse()
        plan[0][0].period = 60
        plan.append(plan[0])
        self.assertEqual(self.ledger.plan(), [(Stream(10, 3, 20, [0, 1, 2]), [0, 3])])
        self.assertEqual(self.ledger.request("b", self.other), [1, 6])

    def test_stream_that_the_caller_changes(self):
        self.ledger.request("a", self.stream)
        self.stream.path.reverse()
        self.stream.period = 60
        self.assertEqual(self.ledger.plan(), [(Stream(10, 3, 20, [0, 1, 2]), [0, 3])])

    def test_two_ledgers_do_not_touch_each_other(self):
        second = Ledger(fork())
        self.ledger.request("a", self.stream)
        self.assertEqual([second.names(), second.plan()], [[], []])
        self.assertFalse(second.release("a"))
        self.assertEqual(second.request("a", self.other), [0, 3])
        self.assertEqual(self.ledger.plan(), [(self.stream, [0, 3])])


class ComeAndGoTest(unittest.TestCase):
    def run_ledger(self, numbers, net, steps):
        """Yields the plan of a ledger behind each of some random requests and releases."""
        ledger = Ledger(net)
        kept = {}
        for step in range(steps):
            name = f"stream {numbers.randint(0, 9)}"
            if numbers.random() < 0.65:
                period = numbers.choice((6, 8, 12, 24))
                path = numbers.choice(paths_of(net))
                stream = Stream(period, numbers.randint(1, 3), numbers.choice((20, 40, 60)), path)
                expected = None if name in kept else admit(net, list(kept.values()), stream)
                self.assertEqual(ledger.request(name, stream), expected)
                if expected is not None:
                    kept[name] = (stream, expected)
            else:
                self.assertIs(ledger.release(name), kept.pop(name, None) is not None)
            self.assertEqual(ledger.names(), list(kept))
            self.assertEqual(ledger.plan(), list(kept.values()))
            yield ledger.plan()

    def test_never_a_fault(self):
        numbers = random.Random(4)
        sizes = []
        for _ in range(25):
            net = numbers.choice((star, chain, ring))(numbers.randint(0, 2), numbers.choice((0, 0, 1, 2)))
            for plan in self.run_ledger(numbers, net, 25):
                self.assertIsNone(judge(net, plan))
                sizes.append(len(plan))
        self.assertGreater(max(sizes), 5)

    def test_each_simulation_ends_without_a_break(self):
        numbers = random.Random(5)
        for _ in range(12):
            net = numbers.choice((star, chain, ring))(numbers.randint(0, 2), numbers.choice((0, 1, 2)))
            for plan in self.run_ledger(numbers, net, 15):
                errors = some_errors(net, numbers)
                broken = numbers.choice([None, None] + [line[:2] for line in net.lines])
                run = simulate(net, plan, errors, 10, broken=broken)
                self.assertIsNone(run.fault)
                self.assertEqual(run.deliveries, self.promised(net, plan, errors, 10, broken))

    def promised(self, net, plan, errors, count, broken):
        """The deliveries that point 05.3 promises, all within the deadlines; frames of a broken line are lost."""
        deliveries = []
        for number, entry in enumerate(plan):
            stream, path = entry[0], entry[0].path
            if broken is not None and set(broken) in [set(pair) for pair in zip(path, path[1:])]:
                continue
            last = arrival_of(net, entry, len(path) - 2) + errors[path[-2]]
            self.assertLessEqual(last, stream.deadline)
            deliveries += [(frame * stream.period + last, number, frame) for frame in range(count)]
        return sorted(deliveries)


class AdmissionExampleTest(unittest.TestCase):
    def test_example(self):
        net = Net(["host", "switch", "host", "host"], [(0, 1, 0), (1, 2, 0), (3, 1, 0)])
        plan = [(Stream(10, 3, 20, [0, 1, 2]), [0, 3])]
        self.assertEqual(admit(net, plan, Stream(10, 3, 20, [3, 1, 2])), [1, 6])
        self.assertIsNone(admit(net, plan, Stream(5, 3, 20, [3, 1, 2])))


class ArgumentsTest(unittest.TestCase):
    def test_no_function_changes_its_arguments(self):
        net = fork(1)
        plan = [(Stream(20, 3, 60, [0, 1, 2]), [0, 5])]
        for stream in (Stream(20, 3, 60, [3, 1, 2]), Stream(20, 3, 9, [3, 1, 2])):
            before = copy.deepcopy([vars(net), plan, stream])
            offsets = admit(net, plan, stream)
            ledger = Ledger(net)
            ledger.request("a", stream)
            ledger.request("a", stream)
            ledger.release("a")
            self.assertEqual([vars(net), plan, stream], before)
            if offsets is not None:
                offsets.append(3)
                self.assertEqual(plan, before[1])


if __name__ == "__main__":
    unittest.main()
