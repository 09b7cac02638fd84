import copy
import itertools
import random
import unittest

from metronet.errors import InvalidText, MetronetError
from metronet.nets import Net
from metronet.plans import Stream
from metronet.texts import read_text, write_text
from tests.small_plans import chain, ring, some_entry, star

H, S = "host", "switch"
NET = "net 1 2\nhost\nswitch\nhost\nhost\nline 0 1 2\nline 2 1 0\n"
STREAM = "stream 10 4 30 0,1,2 5,13\n"


class TextsTest(unittest.TestCase):
    def assert_wrong(self, text, place):
        with self.assertRaises(InvalidText) as context:
            read_text(text)
        self.assertEqual([context.exception.place, context.exception.name], [place, "InvalidText"], text)
        self.assertIsInstance(context.exception, MetronetError)

    def assert_right(self, text):
        net, plan = read_text(text)
        self.assertEqual(write_text(net, plan), text)
        return net, plan

    def assert_wrong_line(self, before, line, behind="host\n"):
        """A line is wrong behind some lines, whatever stands behind it."""
        place = before.count("\n")
        for rest in ("", behind, "\n", "x"):
            self.assert_wrong(f"{before}{line}\n{rest}", place)
        if line != "":
            self.assert_wrong(before + line, place)


class WriteTest(TextsTest):
    def test_net_alone(self):
        self.assertEqual(write_text(Net([H], []), []), "net 0 0\nhost\n")
        self.assertEqual(write_text(Net([S], [], processing=10, error=5), []), "net 10 5\nswitch\n")

    def test_lines_as_they_stand_in_the_list(self):
        net = Net([H, S, H], [(2, 1, 20), (0, 1, 0)])
        self.assertEqual(write_text(net, []), "net 0 0\nhost\nswitch\nhost\nline 2 1 20\nline 0 1 0\n")

    def test_entries(self):
        net = Net([H, S, H], [(0, 1, 0), (1, 2, 0)])
        plan = [(Stream(60, 1, 300, [2, 1, 0]), [0, 500]), (Stream(10, 10, 1, [0, 1, 2]), [7, 8])]
        self.assertEqual(
            write_text(net, plan),
            "net 0 0\nhost\nswitch\nhost\nline 0 1 0\nline 1 2 0\n"
            "stream 60 1 300 2,1,0 0,500\nstream 10 10 1 0,1,2 7,8\n",
        )

    def test_numbers_with_two_digits(self):
        net = Net([S] * 10 + [H, H], [(10, 11, 12)])
        plan = [(Stream(10, 4, 30, [11, 10]), [15])]
        lines = write_text(net, plan).split("\n")
        self.assertEqual(lines[13:], ["line 10 11 12", "stream 10 4 30 11,10 15", ""])


class ReadTest(TextsTest):
    def test_net_and_plan(self):
        result = read_text(NET + STREAM + "stream 60 1 300 2,1,0 0,500\n")
        self.assertIsInstance(result, tuple)
        net, plan = result
        self.assertIsInstance(net, Net)
        self.assertEqual([net.kinds, net.lines], [[H, S, H, H], [(0, 1, 2), (2, 1, 0)]])
        self.assertEqual([net.processing, net.error], [1, 2])
        self.assertEqual(plan, [
            (Stream(10, 4, 30, [0, 1, 2]), [5, 13]), (Stream(60, 1, 300, [2, 1, 0]), [0, 500])
        ])
        self.assertEqual([type(row) for row in [plan, plan[0], plan[0][1], net.lines[0]]], [list, tuple, list, tuple])

    def test_least_text(self):
        for kind in (H, S):
            net, plan = self.assert_right(f"net 0 0\n{kind}\n")
            self.assertEqual([net, plan], [Net([kind], []), []])

    def test_twelve_nodes(self):
        net, _ = self.assert_right("net 0 0\n" + "switch\nhost\n" * 6)
        self.assertEqual(net.kinds, [S, H] * 6)

    def test_entries_that_have_a_fault_are_read(self):
        _, plan = self.assert_right(NET + "stream 1 1 1 0,1,2 500,0\n" * 2)
        self.assertEqual(plan, [(Stream(1, 1, 1, [0, 1, 2]), [500, 0])] * 2)

    def test_bounds(self):
        for text in (
            "net 0 0\nhost\n", "net 10 5\nhost\n",
            "net 0 0\nhost\nhost\nline 0 1 0\n", "net 0 0\nhost\nhost\nline 1 0 20\n",
            NET + "stream 1 1 1 0,1,2 0,0\n", NET + "stream 60 60 300 0,1,2 500,500\n",
        ):
            self.assert_right(text)

    def test_each_text_gives_its_own_lists(self):
        first, second = read_text(NET + STREAM), read_text(NET + STREAM)
        first[0].kinds.append(H)
        first[1][0][1].append(9)
        first[1].append(3)
        self.assertEqual(second, read_text(NET + STREAM))


class FormTest(TextsTest):
    def test_empty_lines(self):
        self.assert_wrong("\n", 0)
        self.assert_wrong("\n\n", 0)
        self.assert_wrong("\n" + NET, 0)
        self.assert_wrong_line("net 0 0\n", "")
        self.assert_wrong_line(NET, "")
        self.assert_wrong_line(NET + STREAM, "")

    def test_unknown_words(self):
        for word in ("hosts", "Host", "HOST", "hos", "x", "0", "#", "switc", "Line 0 3 1", "node 0", "plan"):
            self.assert_wrong_line("net 0 0\n", word)
            self.assert_wrong_line("", word)
            self.assert_wrong_line(NET, word)
            self.assert_wrong_line(NET + STREAM, word)

    def test_blanks(self):
        right = (("", "net 0 0"), ("net 0 0\n", H), ("net 0 0\n", S), (NET, "line 0 3 1"), (NET, STREAM[:-1]))
        for before, line in right:
            read_text(f"{before}{line}\n" + ("host\n" if before == "" else ""))
            for wrong in (f" {line}", f"{line} ", f"  {line}", f"{line}  "):
                self.assert_wrong_line(before, wrong)
            for place in [place for place, character in enumerate(line) if character == " "]:
                self.assert_wrong_line(before, line[:place] + " " + line[place:])
                self.assert_wrong_line(before, line[:place] + line[place + 1:])
                self.assert_wrong_line(before, line[:place] + "," + line[place + 1:])

    def test_number_of_words(self):
        for before, line in (
            ("", "net"), ("", "net 0"), ("", "net 0 0 0"),
            ("net 0 0\n", "host 0"), ("net 0 0\n", "host host"), ("net 0 0\n", "switch 1"),
            (NET, "line"), (NET, "line 0"), (NET, "line 0 3"), (NET, "line 0 3 1 1"),
            (NET, "stream"), (NET, "stream 10"), (NET, "stream 10 4 30"), (NET, "stream 10 4 30 0,1,2"),
            (NET, "stream 10 4 30 0,1,2 5,13 1"), (NET, "stream 10 4 0,1,2 5,13"),
        ):
            self.assert_wrong_line(before, line)

    def test_numbers(self):
        for word in (
            "", "00", "01", "-1", "+1", "1.", "1.0", "0x1", "1_0", "a", "1a", "one", "1e0", "-0", "'1'", ",",
            "0000000001", "1000000000", "9" * 5000,
        ):
            for before, line in (
                ("", "net N 0"), ("", "net 0 N"),
                (NET, "line N 3 1"), (NET, "line 3 N 1"), (NET, "line 0 3 N"),
                (NET, "stream N 1 30 0,1,2 5,13"), (NET, "stream 10 N 30 0,1,2 5,13"),
                (NET, "stream 10 4 N 0,1,2 5,13"), (NET, "stream 10 4 30 N,1,2 5,13"),
                (NET, "stream 10 4 30 0,N,2 5,13"), (NET, "stream 10 4 30 0,1,N 5,13"),
                (NET, "stream 10 4 30 0,1,2 N,13"), (NET, "stream 10 4 30 0,1,2 5,N"),
            ):
                self.assert_wrong_line(before, line.replace("N", word))

    def test_commas(self):
        for path in ("0,1,2,", ",0,1,2", "0,,1,2", "0,1,,2", "0;1;2", "0, 1,2", "0,1 ,2", "012", ""):
            self.assert_wrong_line(NET, f"stream 10 4 30 {path} 5,13")
        for offsets in ("5,13,", ",5,13", "5,,13", "5;13", "5, 13", "5 ,13", "513", ""):
            self.assert_wrong_line(NET, f"stream 10 4 30 0,1,2 {offsets}")


class OrderTest(TextsTest):
    def test_first_line(self):
        for line in (H, S, "line 0 1 0", STREAM[:-1]):
            self.assert_wrong_line("", line, NET)

    def test_second_net(self):
        for before in ("net 0 0\n", "net 0 0\nhost\n", NET, NET + STREAM):
            self.assert_wrong_line(before, "net 0 0")

    def test_nodes_behind_lines_and_streams(self):
        for kind in (H, S):
            self.assert_wrong_line(NET, kind)
            self.assert_wrong_line(NET + STREAM, kind)

    def test_line_behind_a_stream(self):
        self.assert_right(NET + "line 1 3 1\n" + STREAM)
        self.assert_wrong_line(NET + STREAM, "line 1 3 1")

    def test_node_is_needed(self):
        for line in ("line 0 1 0", "line 0 0 0", STREAM[:-1]):
            self.assert_wrong_line("net 0 0\n", line)

    def test_stream_behind_nodes_without_a_line(self):
        self.assert_wrong_line("net 0 0\nhost\nhost\n", "stream 10 4 30 0,1 5")

    def test_first_wrong_line_counts(self):
        self.assert_wrong(NET + "line 0 0 1\nnet 0 0\n", 7)
        self.assert_wrong(NET + STREAM + "line 0 0 1\nnet 0 0\n", 8)
        self.assert_wrong("net 11 0\nhosts\n", 0)
        self.assert_wrong("net 10 0\nhosts\nhosts", 1)


class ValuesTest(TextsTest):
    def test_numbers_beyond_their_bounds(self):
        for before, line in (
            ("", "net 11 0"), ("", "net 0 6"), ("", "net 999999999 0"), ("", "net 0 999999999"),
            (NET, "line 0 3 21"), (NET, "line 0 3 999999999"),
            (NET, "stream 0 1 30 0,1,2 5,13"), (NET, "stream 61 1 30 0,1,2 5,13"),
            (NET, "stream 0 0 30 0,1,2 5,13"), (NET, "stream 10 0 30 0,1,2 5,13"),
            (NET, "stream 61 61 30 0,1,2 5,13"), (NET, "stream 60 61 30 0,1,2 5,13"),
            (NET, "stream 10 4 0 0,1,2 5,13"), (NET, "stream 10 4 301 0,1,2 5,13"),
            (NET, "stream 10 4 30 0,1,2 501,13"), (NET, "stream 10 4 30 0,1,2 5,501"),
            (NET, "stream 10 4 30 0,1,2 5,999999999"),
        ):
            self.assert_wrong_line(before, line)

    def test_length_greater_than_the_period(self):
        self.assert_right(NET + "stream 10 10 30 0,1,2 5,13\n")
        self.assert_wrong_line(NET, "stream 10 11 30 0,1,2 5,13")
        self.assert_wrong_line(NET, "stream 1 2 30 0,1,2 5,13")

    def test_more_than_twelve_nodes(self):
        for count in (12, 13, 20):
            text = "net 0 0\n" + "host\n" * count
            if count == 12:
                self.assert_right(text)
            else:
                self.assert_wrong(text, 13)
        self.assert_wrong_line("net 0 0\n" + "switch\n" * 12, "switch")

    def test_line_that_joins_a_node_with_itself(self):
        for node in range(4):
            self.assert_wrong_line(NET, f"line {node} {node} 1")

    def test_line_with_a_node_that_is_not_there(self):
        for ends in ("0 4", "4 0", "4 4", "4 5", "12 0", "0 999999999"):
            self.assert_wrong_line(NET, f"line {ends} 1")
        self.assert_wrong_line("net 0 0\nhost\n", "line 0 1 1")

    def test_line_between_nodes_that_are_joined(self):
        for ends in ("0 1", "1 0", "1 2", "2 1"):
            for delay in (0, 2, 20):
                self.assert_wrong_line(NET, f"line {ends} {delay}")
        self.assert_right(NET + "line 1 3 2\nline 0 2 0\nline 3 0 1\n")

    def test_path_that_is_none(self):
        for path, count in (
            ("0", 0), ("0", 1), ("1", 1), ("0,1", 1), ("1,2", 1), ("0,2", 1), ("0,1,3", 2), ("0,1,0", 2),
            ("0,0", 1), ("0,1,2,1", 3), ("0,1,2,3", 3), ("0,1,1,2", 3), ("0,1,4", 2), ("4,1,2", 2),
            ("0,999999999,2", 2), ("3,1,2", 2),
        ):
            self.assert_wrong_line(NET, f"stream 10 4 30 {path} {','.join(['5'] * count)}")
        joined = NET + "line 0 2 1\nline 3 2 0\n"
        self.assert_right(joined + "stream 10 4 30 0,2 5\n")
        self.assert_right(joined + "stream 10 4 30 2,0 5\n")
        self.assert_wrong_line(joined, "stream 10 4 30 0,2,3 5,13")

    def test_number_of_offsets(self):
        for offsets in ("5", "5,13,20", "5,13,20,30"):
            self.assert_wrong_line(NET, f"stream 10 4 30 0,1,2 {offsets}")


class EndTest(TextsTest):
    def test_empty_text(self):
        self.assert_wrong("", 0)

    def test_no_node(self):
        self.assert_wrong("net 0 0\n", 1)
        self.assert_wrong("net 10 5\n", 1)

    def test_last_line_without_a_line_feed(self):
        self.assert_wrong("net 0 0", 0)
        self.assert_wrong("net 0 0\nhost", 1)
        for text in (NET, NET + STREAM):
            self.assert_wrong(text[:-1], text.count("\n") - 1)
        self.assert_wrong(NET + " ", 7)

    def test_line_feeds_at_the_end(self):
        self.assert_wrong(NET + "\n", 7)
        self.assert_wrong(NET + STREAM + "\n\n", 8)

    def test_wrong_line_before_the_last_one_without_a_line_feed(self):
        self.assert_wrong("net 0 0\nhost\nhosts\nhost", 2)


class ThereAndBackTest(TextsTest):
    def test_reading_what_was_written(self):
        numbers = random.Random(1)
        for _ in range(300):
            net = numbers.choice((star, chain, ring))(numbers.randint(0, 10), numbers.randint(0, 5))
            lines = [numbers.choice(((a, b, delay), (b, a, delay))) for a, b, delay in net.lines]
            numbers.shuffle(lines)
            net = Net(net.kinds, lines, processing=net.processing, error=net.error)
            plan = [some_entry(net, numbers, (0, 3, 50), numbers.randint(1, 300)) for _ in range(numbers.randint(0, 4))]
            text = write_text(net, plan)
            again, same = read_text(text)
            self.assertTrue(again == net)
            self.assertTrue(same == plan)
            self.assertEqual(again.lines, lines)
            self.assertEqual(write_text(again, same), text)

    def test_writing_what_was_read(self):
        # Each text of a few lines is wrong, or comes back when it is written again.
        lines = ["net 0 0\n", "host\n", "switch\n", "line 0 1 3\n", "line 2 1 0\n", "stream 9 3 30 0,1 5\n"]
        right = 0
        for count in range(6):
            for chosen in itertools.product(lines, repeat=count):
                try:
                    net, plan = read_text("".join(chosen))
                except InvalidText:
                    continue
                right += 1
                self.assertEqual(write_text(net, plan), "".join(chosen))
        self.assertGreater(right, 40)

    def test_changed_characters(self):
        # A text with one character more, less or changed is wrong, or comes back when it is written again.
        text = NET + STREAM
        right = 0
        for place, character in itertools.product(range(len(text) + 1), ["", *" ,\n0159ahm-"]):
            for rest in (text[place:], text[place + 1:]):
                changed = text[:place] + character + rest
                try:
                    net, plan = read_text(changed)
                except InvalidText as error:
                    self.assertTrue(0 <= error.place <= changed.count("\n"), changed)
                    continue
                right += 1
                self.assertEqual(write_text(net, plan), changed)
        self.assertGreater(right, 50)


class TextsExampleTest(unittest.TestCase):
    def test_example(self):
        net = Net(["host", "host"], [(0, 1, 2)])
        text = "net 0 0\nhost\nhost\nline 0 1 2\nstream 10 4 30 0,1 5\n"
        self.assertEqual(write_text(net, [(Stream(10, 4, 30, [0, 1]), [5])]), text)
        self.assertEqual(read_text(text), (net, [(Stream(10, 4, 30, [0, 1]), [5])]))
        with self.assertRaises(InvalidText) as context:
            read_text("net 0 0\nhost\nline 0 0 1\n")
        self.assertEqual(context.exception.place, 2)


class ArgumentsTest(unittest.TestCase):
    def test_no_function_changes_its_arguments(self):
        net = Net([H, S, H], [(0, 1, 2), (1, 2, 3)], processing=1)
        plan = [(Stream(10, 4, 30, [0, 1, 2]), [0, 7])]
        before = copy.deepcopy([vars(net), plan])
        write_text(net, plan)
        self.assertEqual([vars(net), plan], before)


if __name__ == "__main__":
    unittest.main()
