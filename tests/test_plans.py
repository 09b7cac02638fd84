import copy
import unittest

from metronet.nets import Net
from metronet.plans import Stream, arrival_of, window_of, windows_at

H, S = "host", "switch"


class StreamTest(unittest.TestCase):
    def setUp(self):
        self.stream = Stream(10, 4, 30, [0, 1, 2])

    def test_attributes(self):
        stream = self.stream
        self.assertEqual([stream.period, stream.length, stream.deadline, stream.path], [10, 4, 30, [0, 1, 2]])
        for name in ("period", "length", "deadline", "path"):
            self.assertIn(name, vars(stream))

    def test_arguments_by_keyword(self):
        self.assertEqual(Stream(deadline=30, path=[0, 1, 2], length=4, period=10), self.stream)

    def test_least_and_greatest_numbers(self):
        for period, length, deadline in ((1, 1, 1), (60, 60, 300), (60, 1, 1)):
            stream = Stream(period, length, deadline, [0, 1])
            self.assertEqual([stream.period, stream.length, stream.deadline], [period, length, deadline])

    def test_path_is_copied(self):
        path = [0, 1, 2]
        stream = Stream(10, 4, 30, path)
        path[0] = 7
        path.append(8)
        self.assertEqual(stream.path, [0, 1, 2])
        self.assertEqual(stream, self.stream)

    def test_equal(self):
        self.assertTrue(self.stream == Stream(10, 4, 30, [0, 1, 2]))
        self.assertFalse(self.stream != Stream(10, 4, 30, [0, 1, 2]))

    def test_not_equal(self):
        for other in (
            Stream(11, 4, 30, [0, 1, 2]),
            Stream(10, 5, 30, [0, 1, 2]),
            Stream(10, 4, 31, [0, 1, 2]),
            Stream(10, 4, 30, [0, 1, 3]),
            Stream(10, 4, 30, [2, 1, 0]),
            Stream(10, 4, 30, [0, 1]),
            Stream(4, 10, 30, [0, 1, 2]),
        ):
            self.assertFalse(self.stream == other, vars(other))
            self.assertFalse(other == self.stream, vars(other))
            self.assertTrue(self.stream != other, vars(other))

    def test_value_of_another_class(self):
        for other in (None, 10, "stream", [0, 1, 2], (10, 4, 30, [0, 1, 2]), object()):
            self.assertFalse(self.stream == other, other)
            self.assertFalse(other == self.stream, other)
            self.assertTrue(self.stream != other, other)


class EntryTest(unittest.TestCase):
    def setUp(self):
        self.net = Net([H, S, S, H], [(1, 0, 2), (1, 2, 0), (3, 2, 20)], processing=5, error=3)
        self.entry = (Stream(10, 4, 300, [0, 1, 2, 3]), [6, 17, 500])

    def test_window_at_each_hop(self):
        windows = [window_of(self.entry, hop) for hop in range(3)]
        self.assertEqual(windows, [(6, 4, 10), (17, 4, 10), (500, 4, 10)])
        self.assertIsInstance(windows[0], tuple)

    def test_arrival_at_a_switch(self):
        self.assertEqual(arrival_of(self.net, self.entry, 0), 6 + 4 + 2 + 5)
        self.assertEqual(arrival_of(self.net, self.entry, 1), 17 + 4 + 0 + 5)

    def test_arrival_at_the_last_node(self):
        self.assertEqual(arrival_of(self.net, self.entry, 2), 500 + 4 + 20)

    def test_arrival_on_a_path_without_a_switch(self):
        net = Net([H, H], [(0, 1, 7)], processing=10)
        self.assertEqual(arrival_of(net, (Stream(9, 1, 30, [1, 0]), [0]), 0), 8)

    def test_arrival_without_processing_time(self):
        net = Net([H, S, H], [(0, 1, 0), (1, 2, 0)])
        entry = (Stream(9, 1, 30, [2, 1, 0]), [0, 1])
        self.assertEqual([arrival_of(net, entry, hop) for hop in range(2)], [1, 2])


class WindowsAtTest(unittest.TestCase):
    def setUp(self):
        self.plan = [
            (Stream(10, 4, 300, [3, 1, 2, 4]), [9, 19, 29]),
            (Stream(12, 2, 300, [0, 1, 5]), [3, 8]),
            (Stream(20, 1, 300, [4, 2, 1, 0]), [0, 2, 4]),
            (Stream(15, 3, 300, [0, 1, 2, 4]), [1, 6, 11]),
        ]

    def test_order_of_the_entries(self):
        self.assertEqual(windows_at(self.plan, (1, 2)), [(19, 4, 10), (6, 3, 15)])
        self.assertEqual(windows_at(self.plan[::-1], (1, 2)), [(6, 3, 15), (19, 4, 10)])
        self.assertEqual(windows_at(self.plan, (2, 4)), [(29, 4, 10), (11, 3, 15)])
        self.assertEqual(windows_at(self.plan, (0, 1)), [(3, 2, 12), (1, 3, 15)])

    def test_other_direction(self):
        self.assertEqual(windows_at(self.plan, (2, 1)), [(2, 1, 20)])
        self.assertEqual(windows_at(self.plan, (4, 2)), [(0, 1, 20)])
        self.assertEqual(windows_at(self.plan, (1, 0)), [(4, 1, 20)])

    def test_port_of_no_entry(self):
        self.assertEqual(windows_at(self.plan, (5, 1)), [])
        self.assertEqual(windows_at(self.plan, (1, 4)), [])
        self.assertEqual(windows_at([], (1, 2)), [])

    def test_equal_windows_stand_for_each_entry(self):
        entry = (Stream(9, 2, 30, [0, 1]), [4])
        self.assertEqual(windows_at([entry, entry], (0, 1)), [(4, 2, 9), (4, 2, 9)])


class PlansExampleTest(unittest.TestCase):
    def test_example(self):
        net = Net(["host", "switch", "host"], [(0, 1, 2), (1, 2, 3)], processing=1)
        entry = (Stream(10, 4, 30, [0, 1, 2]), [0, 7])
        self.assertEqual(
            [window_of(entry, 1), arrival_of(net, entry, 0), arrival_of(net, entry, 1)], [(7, 4, 10), 7, 14]
        )


class ArgumentsTest(unittest.TestCase):
    def test_no_function_changes_its_arguments(self):
        net = Net([H, S, H], [(0, 1, 2), (1, 2, 3)], processing=1)
        path = [0, 1, 2]
        plan = [(Stream(10, 4, 30, path), [0, 7]), (Stream(10, 4, 30, path[::-1]), [5, 17])]
        before = copy.deepcopy([vars(net), path, plan])
        for entry in plan:
            for hop in range(2):
                window_of(entry, hop)
                arrival_of(net, entry, hop)
        windows_at(plan, (1, 2)).append((0, 1, 1))
        self.assertFalse(plan[0][0] == plan[1][0])
        self.assertEqual([vars(net), path, plan], before)


if __name__ == "__main__":
    unittest.main()
