import copy
import itertools
import random
import unittest

from metronet.nets import Net, are_separate, is_path
from metronet.routes import bottleneck, separate_paths, shortest_path
from tests.plain_routes import all_paths, apart, bottlenecks, is_there_a_path

H, S = "host", "switch"


def net_of(kinds, pairs):
    """A net with these kinds, one letter each, and lines without delays."""
    return Net([{"h": H, "s": S}[letter] for letter in kinds], [(a, b, 0) for a, b in pairs])


class RoutesTest(unittest.TestCase):
    def assert_two_paths(self, net, first, last):
        pair = separate_paths(net, first, last)
        self.assertIsInstance(pair, tuple)
        self.assertEqual(len(pair), 2)
        for path in pair:
            self.assertIsInstance(path, list)
            self.assertTrue(is_path(net, path), path)
            self.assertEqual([path[0], path[-1]], [first, last])
        self.assertTrue(are_separate(*pair), pair)
        self.assertTrue(apart(*pair), pair)
        self.assertIsNone(bottleneck(net, first, last))

    def assert_bottleneck(self, net, first, last, expected):
        self.assertEqual(bottleneck(net, first, last), expected)
        self.assertIsInstance(bottleneck(net, first, last), tuple)
        self.assertIsNone(separate_paths(net, first, last))

    def assert_no_path(self, net, first, last):
        self.assertIsNone(shortest_path(net, first, last))
        self.assertIsNone(separate_paths(net, first, last))
        self.assertIsNone(bottleneck(net, first, last))


class ShortestPathTest(RoutesTest):
    def test_fewest_nodes(self):
        net = net_of("hsssh", [(0, 1), (1, 2), (2, 4), (0, 3), (3, 4)])
        self.assertEqual(shortest_path(net, 0, 4), [0, 3, 4])
        self.assertEqual(shortest_path(net, 4, 0), [4, 3, 0])

    def test_delays_do_not_count(self):
        net = Net([H, S, S, S, H], [(0, 1, 0), (1, 2, 0), (2, 4, 0), (0, 3, 20), (3, 4, 20)])
        self.assertEqual(shortest_path(net, 0, 4), [0, 3, 4])

    def test_several_with_the_same_number_of_nodes(self):
        net = net_of("hsssh", [(0, 3), (3, 4), (0, 2), (2, 4), (0, 1), (1, 4)])
        self.assertEqual(shortest_path(net, 0, 4), [0, 1, 4])
        net = net_of("hssssh", [(0, 2), (0, 1), (1, 4), (2, 3), (4, 5), (3, 5)])
        self.assertEqual(shortest_path(net, 0, 5), [0, 1, 4, 5])
        self.assertEqual(shortest_path(net, 5, 0), [5, 3, 2, 0])

    def test_least_list_when_a_node_is_reached_from_several(self):
        net = net_of("hssssh", [(0, 2), (0, 3), (3, 1), (2, 4), (3, 4), (1, 5), (4, 5)])
        self.assertEqual(shortest_path(net, 0, 5), [0, 2, 4, 5])

    def test_lists_are_compared_as_numbers(self):
        net = net_of("hssssssssssh", [(0, 10), (10, 11), (0, 9), (9, 11)])
        self.assertEqual(shortest_path(net, 0, 11), [0, 9, 11])

    def test_host_in_the_way(self):
        net = net_of("hhsssh", [(0, 1), (1, 5), (0, 2), (2, 3), (3, 4), (4, 5)])
        self.assertEqual(shortest_path(net, 0, 5), [0, 2, 3, 4, 5])

    def test_only_a_host_in_the_way(self):
        self.assert_no_path(net_of("hhh", [(0, 1), (1, 2)]), 0, 2)
        self.assert_no_path(net_of("hshsh", [(0, 1), (1, 2), (2, 3), (3, 4)]), 0, 4)

    def test_joined_directly(self):
        net = net_of("hsh", [(0, 1), (1, 2), (2, 0)])
        self.assertEqual(shortest_path(net, 0, 2), [0, 2])
        self.assertEqual(shortest_path(net, 2, 0), [2, 0])

    def test_no_path(self):
        self.assert_no_path(net_of("hh", []), 0, 1)
        self.assert_no_path(net_of("hssh", [(0, 1), (2, 3)]), 0, 3)
        self.assert_no_path(net_of("hssh", [(0, 1), (1, 2)]), 0, 3)

    def test_longest_path(self):
        nodes = [0, 6, 2, 9, 4, 1, 8, 3, 10, 7, 5, 11]
        net = net_of("hssssssssssh", zip(nodes, nodes[1:]))
        self.assertEqual(shortest_path(net, 0, 11), nodes)
        self.assertEqual(shortest_path(net, 11, 0), nodes[::-1])


class SeparatePathsTest(RoutesTest):
    def test_two_paths(self):
        self.assert_two_paths(net_of("hssh", [(0, 1), (0, 2), (1, 3), (2, 3)]), 0, 3)
        self.assert_two_paths(net_of("hsssh", [(0, 1), (1, 2), (2, 4), (4, 3), (3, 0)]), 4, 0)

    def test_line_between_both_hosts_is_one_of_them(self):
        net = net_of("hssh", [(0, 3), (0, 1), (1, 2), (2, 3)])
        self.assert_two_paths(net, 0, 3)
        self.assertEqual(sorted(separate_paths(net, 0, 3)), [[0, 1, 2, 3], [0, 3]])

    def test_shortest_path_must_be_given_up(self):
        # The shortest path 0 1 2 7 takes a switch from each of the two others.
        net = net_of("hssssssh", [(0, 1), (1, 2), (2, 7), (1, 3), (3, 4), (4, 7), (0, 5), (5, 6), (6, 2)])
        self.assertEqual(shortest_path(net, 0, 7), [0, 1, 2, 7])
        self.assert_two_paths(net, 0, 7)
        self.assertEqual(sorted(separate_paths(net, 0, 7)), [[0, 1, 3, 4, 7], [0, 5, 6, 2, 7]])
        self.assert_two_paths(net, 7, 0)

    def test_several_switches_of_the_shortest_path_must_be_given_up(self):
        # One path leaves 0 1 2 3 4 11 at 1, the other one comes to it at 4: neither has 2 or 3.
        net = net_of(
            "hssssssssssh",
            [(0, 1), (1, 2), (2, 3), (3, 4), (4, 11), (1, 5), (5, 6), (6, 9), (9, 11), (0, 7), (7, 8), (8, 10),
             (10, 4)],
        )
        self.assertEqual(shortest_path(net, 0, 11), [0, 1, 2, 3, 4, 11])
        self.assert_two_paths(net, 0, 11)
        self.assert_two_paths(net, 11, 0)

    def test_two_stretches_of_the_shortest_path_must_be_given_up(self):
        # The shortest path 0 1 2 3 4 11 is given up between 1 and 2, and between 3 and 4.
        net = net_of(
            "hssssssssssh",
            [(0, 1), (1, 2), (2, 3), (3, 4), (4, 11), (0, 5), (5, 6), (6, 2), (1, 7), (7, 8), (8, 4), (3, 9), (9, 10),
             (10, 11)],
        )
        self.assertEqual(shortest_path(net, 0, 11), [0, 1, 2, 3, 4, 11])
        self.assert_two_paths(net, 0, 11)
        self.assertEqual(sorted(separate_paths(net, 0, 11)), [[0, 1, 7, 8, 4, 11], [0, 5, 6, 2, 3, 9, 10, 11]])
        self.assert_two_paths(net, 11, 0)

    def test_greatest_net(self):
        net = net_of("h" + "s" * 10 + "h", itertools.combinations(range(12), 2))
        self.assert_two_paths(net, 0, 11)
        self.assertEqual(shortest_path(net, 0, 11), [0, 11])


class BottleneckTest(RoutesTest):
    def test_switch(self):
        self.assert_bottleneck(net_of("hsh", [(0, 1), (1, 2)]), 0, 2, ("switch", 1))
        net = net_of("hssssh", [(0, 1), (0, 2), (1, 3), (2, 3), (3, 4), (4, 5), (3, 5)])
        self.assert_bottleneck(net, 0, 5, ("switch", 3))

    def test_least_of_several_switches(self):
        net = net_of("hssssh", [(0, 3), (3, 1), (1, 4), (4, 2), (2, 5)])
        self.assert_bottleneck(net, 0, 5, ("switch", 1))
        self.assert_bottleneck(net, 5, 0, ("switch", 1))
        net = net_of("hssssh", [(0, 4), (4, 1), (4, 2), (1, 3), (2, 3), (3, 5)])
        self.assert_bottleneck(net, 0, 5, ("switch", 3))

    def test_switch_comes_before_a_line_with_lesser_nodes(self):
        net = net_of("hhsss", [(0, 4), (4, 1)])
        self.assert_bottleneck(net, 0, 1, ("switch", 4))

    def test_line_between_both_hosts(self):
        self.assert_bottleneck(net_of("hh", [(0, 1)]), 0, 1, ("line", 0, 1))
        self.assert_bottleneck(net_of("hh", [(1, 0)]), 1, 0, ("line", 0, 1))
        net = net_of("hsssh", [(4, 0), (0, 1), (1, 2), (3, 4)])
        self.assert_bottleneck(net, 0, 4, ("line", 0, 4))
        self.assert_bottleneck(net, 4, 0, ("line", 0, 4))

    def test_host_is_no_bottleneck(self):
        net = net_of("hhssh", [(0, 1), (1, 4), (0, 2), (2, 4), (0, 3), (3, 4)])
        self.assert_two_paths(net, 0, 4)

    def test_no_path(self):
        self.assert_no_path(net_of("hsh", [(0, 1)]), 0, 2)
        self.assert_no_path(net_of("hhh", [(0, 1), (1, 2)]), 0, 2)


class ManyNetsTest(RoutesTest):
    def check(self, kinds, pairs):
        net = net_of(kinds, pairs)
        hosts = [node for node, letter in enumerate(kinds) if letter == "h"]
        for first, last in itertools.permutations(hosts, 2):
            paths = all_paths(net.kinds, net.lines, first, last)
            shortest = min(paths, key=lambda path: (len(path), path), default=None)
            self.assertEqual(shortest_path(net, first, last), shortest, pairs)
            self.check_alternatives(net, first, last, paths)

    def check_alternatives(self, net, first, last, paths):
        needed = bottlenecks(net.kinds, net.lines, first, last)
        if any(apart(one, other) for one, other in itertools.combinations(paths, 2)):
            self.assertEqual(needed, [])
            self.assert_two_paths(net, first, last)
        elif paths:
            self.assert_bottleneck(net, first, last, needed[0])
        else:
            self.assert_no_path(net, first, last)

    def test_all_nets_of_five_nodes_with_two_hosts(self):
        pairs = list(itertools.combinations(range(5), 2))
        for kinds in ("hsssh", "shshs"):
            for chosen in itertools.product((False, True), repeat=len(pairs)):
                self.check(kinds, list(itertools.compress(pairs, chosen)))

    def test_all_nets_of_four_nodes(self):
        pairs = list(itertools.combinations(range(4), 2))
        for letters in itertools.product("hs", repeat=4):
            for chosen in itertools.product((False, True), repeat=len(pairs)):
                self.check("".join(letters), list(itertools.compress(pairs, chosen)))

    def test_nets_of_six_to_eight_nodes(self):
        numbers = random.Random(2)
        for many in (6, 7, 8):
            pairs = list(itertools.combinations(range(many), 2))
            for _ in range(300):
                kinds = list("hh" + "s" * (many - 3) + numbers.choice("hs"))
                numbers.shuffle(kinds)
                count = numbers.randint(many - 2, 2 * many)
                chosen = [numbers.choice([(a, b), (b, a)]) for a, b in numbers.sample(pairs, min(count, len(pairs)))]
                self.check("".join(kinds), chosen)

    def test_nets_of_twelve_nodes(self):
        numbers = random.Random(3)
        pairs = list(itertools.combinations(range(12), 2))
        for _ in range(400):
            kinds = list("hh" + "s" * 10)
            numbers.shuffle(kinds)
            net = net_of(kinds, numbers.sample(pairs, numbers.randint(10, 24)))
            first, last = [node for node in range(12) if kinds[node] == "h"]
            needed = bottlenecks(net.kinds, net.lines, first, last)
            if needed:
                self.assert_bottleneck(net, first, last, needed[0])
            elif is_there_a_path(net.kinds, net.lines, first, last):
                self.assert_two_paths(net, first, last)
            else:
                self.assert_no_path(net, first, last)


class RoutesExampleTest(unittest.TestCase):
    def test_example(self):
        net = Net(
            ["host", "switch", "switch", "host"], [(0, 1, 0), (0, 2, 0), (1, 3, 0), (2, 3, 0), (1, 2, 0)]
        )
        self.assertEqual(shortest_path(net, 0, 3), [0, 1, 3])
        self.assertIs(bottleneck(net, 0, 3) is None, True)
        self.assertEqual(
            bottleneck(Net(["host", "switch", "host"], [(0, 1, 0), (1, 2, 0)]), 0, 2), ("switch", 1)
        )


class ArgumentsTest(unittest.TestCase):
    def test_no_function_changes_its_arguments(self):
        for pairs in (
            [(0, 1), (1, 2), (2, 7), (1, 3), (3, 4), (4, 7), (0, 5), (5, 6), (6, 2)],
            [(0, 1), (1, 7)],
            [(7, 0), (1, 7)],
            [(7, 1)],
        ):
            net = net_of("hssssssh", pairs)
            before = copy.deepcopy(vars(net))
            for function in (shortest_path, separate_paths, bottleneck):
                function(net, 0, 7)
                self.assertEqual(vars(net), before)


if __name__ == "__main__":
    unittest.main()
