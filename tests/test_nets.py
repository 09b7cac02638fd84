import copy
import unittest

from metronet.nets import Net, are_separate, is_path, ports_of

H, S = "host", "switch"


class NetTest(unittest.TestCase):
    def setUp(self):
        self.kinds = [H, S, H, S]
        self.lines = [(2, 1, 3), (0, 1, 2)]
        self.net = Net(self.kinds, self.lines, processing=4, error=5)

    def test_attributes(self):
        net = self.net
        self.assertEqual(net.kinds, [H, S, H, S])
        self.assertEqual(net.lines, [(2, 1, 3), (0, 1, 2)])
        self.assertEqual([net.processing, net.error], [4, 5])

    def test_attributes_are_set_on_the_object(self):
        for name in ("kinds", "lines", "processing", "error"):
            self.assertIn(name, vars(self.net))

    def test_defaults(self):
        net = Net([H], [])
        self.assertEqual([net.kinds, net.lines, net.processing, net.error], [[H], [], 0, 0])

    def test_times_are_passed_by_keyword_only(self):
        with self.assertRaises(TypeError):
            Net([H], [], 1)
        with self.assertRaises(TypeError):
            Net([H], [], 1, 1)

    def test_kinds_are_copied(self):
        self.kinds[0] = S
        self.kinds.append(H)
        self.assertEqual(self.net.kinds, [H, S, H, S])
        self.assertTrue(is_path(self.net, [0, 1, 2]))
        self.assertEqual(self.net, Net([H, S, H, S], self.lines, processing=4, error=5))

    def test_lines_are_copied(self):
        self.lines.append((0, 2, 9))
        del self.lines[0]
        self.assertEqual(self.net.lines, [(2, 1, 3), (0, 1, 2)])
        self.assertIsNone(self.net.delay(0, 2))
        self.assertEqual(self.net.delay(1, 2), 3)
        self.assertEqual(self.net.neighbours(1), [0, 2])
        self.assertEqual(self.net, Net(self.kinds, [(0, 1, 2), (1, 2, 3)], processing=4, error=5))

    def test_delay_in_both_directions(self):
        net = self.net
        self.assertEqual([net.delay(0, 1), net.delay(1, 0)], [2, 2])
        self.assertEqual([net.delay(1, 2), net.delay(2, 1)], [3, 3])

    def test_delay_without_a_line(self):
        net = self.net
        self.assertEqual([net.delay(0, 2), net.delay(2, 0)], [None, None])
        self.assertEqual([net.delay(3, 1), net.delay(1, 1)], [None, None])

    def test_least_and_greatest_delay(self):
        net = Net([H, S, H], [(0, 1, 0), (1, 2, 20)])
        self.assertEqual([net.delay(0, 1), net.delay(1, 0)], [0, 0])
        self.assertEqual([net.delay(1, 2), net.delay(2, 1)], [20, 20])

    def test_neighbours_are_ascending(self):
        net = Net([S] * 12, [(5, 11, 0), (10, 5, 0), (5, 0, 0), (2, 5, 0), (5, 9, 0)])
        self.assertEqual(net.neighbours(5), [0, 2, 9, 10, 11])
        self.assertEqual(net.neighbours(11), [5])

    def test_neighbours_of_a_node_without_lines(self):
        self.assertEqual(self.net.neighbours(3), [])
        self.assertEqual(Net([H], []).neighbours(0), [])

    def test_neighbours_are_a_new_list(self):
        self.net.neighbours(1).append(3)
        self.assertEqual(self.net.neighbours(1), [0, 2])


class NetEqualityTest(unittest.TestCase):
    def setUp(self):
        self.net = Net([H, S, H], [(0, 1, 2), (1, 2, 3)], processing=4, error=5)

    def test_equal(self):
        self.assertTrue(self.net == Net([H, S, H], [(0, 1, 2), (1, 2, 3)], processing=4, error=5))
        self.assertTrue(Net([H], []) == Net([H], []))

    def test_other_order_and_direction_of_lines(self):
        for lines in (
            [(1, 2, 3), (0, 1, 2)],
            [(1, 0, 2), (1, 2, 3)],
            [(0, 1, 2), (2, 1, 3)],
            [(2, 1, 3), (1, 0, 2)],
        ):
            self.assertTrue(self.net == Net([H, S, H], lines, processing=4, error=5), lines)
            self.assertFalse(self.net != Net([H, S, H], lines, processing=4, error=5), lines)

    def test_other_lines(self):
        for lines in (
            [(0, 1, 2), (1, 2, 4)],
            [(0, 1, 3), (1, 2, 2)],
            [(0, 1, 2)],
            [(0, 1, 2), (1, 2, 3), (0, 2, 0)],
            [(0, 1, 2), (0, 2, 3)],
            [],
        ):
            other = Net([H, S, H], lines, processing=4, error=5)
            self.assertFalse(self.net == other, lines)
            self.assertFalse(other == self.net, lines)
            self.assertTrue(self.net != other, lines)

    def test_other_kinds(self):
        for kinds in ([H, H, H], [S, S, H], [H, S, S], [H, S, H, H], [H, S, H, S]):
            other = Net(kinds, [(0, 1, 2), (1, 2, 3)], processing=4, error=5)
            self.assertFalse(self.net == other, kinds)
            self.assertFalse(other == self.net, kinds)

    def test_other_processing_time(self):
        self.assertFalse(self.net == Net([H, S, H], self.net.lines, processing=0, error=5))

    def test_other_clock_bound(self):
        self.assertFalse(self.net == Net([H, S, H], self.net.lines, processing=4, error=0))

    def test_processing_time_and_clock_bound_exchanged(self):
        self.assertFalse(self.net == Net([H, S, H], self.net.lines, processing=5, error=4))

    def test_value_of_another_class(self):
        for other in (None, 0, "net", [H, S, H], (self.net.kinds, self.net.lines), object()):
            self.assertFalse(self.net == other, other)
            self.assertFalse(other == self.net, other)
            self.assertTrue(self.net != other, other)


class PathTest(unittest.TestCase):
    def setUp(self):
        # 0 and 6 are hosts at the ends of the switches 1 to 4; 5 is a host that is joined with 1, 2 and 3.
        self.net = Net(
            [H, S, S, S, S, H, H],
            [(0, 1, 0), (1, 2, 1), (3, 2, 2), (3, 4, 3), (4, 6, 4), (5, 1, 5), (5, 2, 6), (3, 5, 7), (0, 6, 8),
             (2, 4, 9)],
        )

    def test_paths(self):
        for nodes in ([0, 6], [6, 0], [0, 1, 5], [5, 1, 0], [0, 1, 2, 5], [0, 1, 2, 4, 6], [0, 1, 2, 3, 4, 6]):
            self.assertIs(is_path(self.net, nodes), True, nodes)

    def test_fewer_than_two_nodes(self):
        for nodes in ([], [0], [1]):
            self.assertIs(is_path(self.net, nodes), False, nodes)

    def test_node_twice(self):
        self.assertIs(is_path(self.net, [0, 1, 2, 3, 2, 5]), False)
        self.assertIs(is_path(self.net, [0, 1, 2, 3, 4, 2, 5]), False)
        self.assertIs(is_path(self.net, [0, 1, 0]), False)
        self.assertIs(is_path(self.net, [0, 0]), False)

    def test_neighbours_that_are_not_joined(self):
        self.assertIs(is_path(self.net, [0, 5]), False)
        self.assertIs(is_path(self.net, [0, 2, 5]), False)
        self.assertIs(is_path(self.net, [0, 1, 4, 6]), False)
        self.assertIs(is_path(self.net, [0, 1, 2, 3, 6]), False)

    def test_switch_at_an_end(self):
        self.assertIs(is_path(self.net, [1, 2, 5]), False)
        self.assertIs(is_path(self.net, [0, 1, 2]), False)
        self.assertIs(is_path(self.net, [0, 1]), False)
        self.assertIs(is_path(self.net, [1, 0]), False)
        self.assertIs(is_path(self.net, [1, 2]), False)
        self.assertIs(is_path(self.net, [1, 2, 3]), False)

    def test_host_in_the_middle(self):
        self.assertIs(is_path(self.net, [0, 1, 5, 3, 4, 6]), False)
        self.assertIs(is_path(Net([H, H, H], [(0, 1, 0), (1, 2, 0)]), [0, 1, 2]), False)

    def test_line_with_delay_zero_joins(self):
        self.assertIs(is_path(Net([H, H], [(0, 1, 0)]), [1, 0]), True)

    def test_ports(self):
        self.assertEqual(ports_of([4, 2]), [(4, 2)])
        self.assertEqual(ports_of([0, 1, 2]), [(0, 1), (1, 2)])
        self.assertEqual(ports_of([6, 4, 3, 2, 1, 0]), [(6, 4), (4, 3), (3, 2), (2, 1), (1, 0)])
        self.assertIsInstance(ports_of([0, 1, 2])[0], tuple)


class SeparateTest(unittest.TestCase):
    def assert_separate(self, first, second, expected):
        self.assertIs(are_separate(first, second), expected)
        self.assertIs(are_separate(second, first), expected)
        self.assertIs(are_separate(first[::-1], second[::-1]), expected)

    def test_common_node(self):
        self.assert_separate([0, 1, 3], [0, 1, 3], False)
        self.assert_separate([0, 1, 2, 9], [0, 3, 2, 9], False)
        self.assert_separate([0, 1, 2, 9], [0, 1, 3, 9], False)
        self.assert_separate([0, 1, 2, 3, 9], [0, 4, 1, 9], False)

    def test_common_node_and_line(self):
        self.assert_separate([0, 1, 2, 9], [0, 1, 2, 3, 9], False)
        self.assert_separate([0, 1, 2, 9], [0, 2, 1, 9], False)

    def test_common_line_only(self):
        self.assert_separate([0, 9], [0, 9], False)

    def test_neither(self):
        self.assert_separate([0, 1, 9], [0, 2, 9], True)
        self.assert_separate([0, 9], [0, 1, 9], True)
        self.assert_separate([0, 1, 2, 9], [0, 3, 4, 5, 9], True)


class NetsExampleTest(unittest.TestCase):
    def test_example(self):
        net = Net(["host", "switch", "host"], [(0, 1, 2), (2, 1, 3)], processing=1)
        self.assertEqual([net.delay(1, 2), net.delay(0, 2), net.neighbours(1)], [3, None, [0, 2]])
        self.assertEqual(
            [is_path(net, [0, 1, 2]), is_path(net, [0, 1]), ports_of([0, 1, 2])],
            [True, False, [(0, 1), (1, 2)]],
        )


class ArgumentsTest(unittest.TestCase):
    def test_no_function_changes_its_arguments(self):
        kinds = [H, S, H, S]
        lines = [(2, 1, 3), (0, 1, 2), (3, 0, 1), (3, 2, 1)]
        net = Net(kinds, lines, processing=2, error=1)
        other = Net([H, S, H, S], [(0, 1, 2)])
        first, second = [0, 1, 2], [0, 3, 2]
        before = copy.deepcopy([kinds, lines, vars(net), vars(other), first, second])
        net.delay(0, 1)
        net.neighbours(0)
        self.assertFalse(net == other)
        is_path(net, first)
        ports_of(first)
        are_separate(first, second)
        self.assertEqual([kinds, lines, vars(net), vars(other), first, second], before)


if __name__ == "__main__":
    unittest.main()
