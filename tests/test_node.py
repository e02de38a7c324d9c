"""Promise 10: node."""

import unittest

from talk import again, ask, begin, last, lose, read, round_trips, see_node, stop, take, write, write_on, written_to


class Node(unittest.TestCase):
    def test_at_first(self):
        for count in range(1, 6):
            for node in range(count):
                self.assertEqual(last(begin(*[1] * count), see_node(node)), [1, 0, 0, 0, 0, 0, 0, 0, 0, 0])

    def test_no_such_node(self):
        for count in range(1, 6):
            for node in range(count, 10):
                self.assertEqual(last(begin(*[1] * count), see_node(node)), [-1])

    def test_nodes_of_weight_zero_are_told_too(self):
        self.assertEqual(last(begin(0, 1), see_node(0)), [1] + [0] * 9)

    def test_the_number_of_nodes_is_the_newest_worlds(self):
        self.assertEqual(last(begin(1, 1, 1), begin(1), see_node(1)), [-1])
        self.assertEqual(last(begin(1), begin(1, 1, 1), see_node(2)), [1] + [0] * 9)
        self.assertEqual(last(begin(1), begin(), see_node(0)), [1] + [0] * 9)

    def test_a_stopped_one_tells_what_it_holds(self):
        calls = written_to((1, 1), [0, 1], 3, 1, 7) + [stop(1)]
        self.assertEqual(last(*calls, see_node(0)), [1, 0, 0, 0, 1, 3, 7, 0, 0, 0])
        self.assertEqual(last(*calls, see_node(1)), [0, 0, 0, 0, 1, 3, 7, 0, 0, 0])

    def test_each_cell_in_its_place(self):
        calls = written_to((1,), [0], 3, 2, 7)
        self.assertEqual(last(*calls, see_node(0)), [1, 0, 0, 0, 0, 0, 0, 1, 3, 7])
        calls += write_on(1, [0], 1, 0, 5)
        self.assertEqual(last(*calls, see_node(0)), [1, 1, 1, 5, 0, 0, 0, 1, 3, 7])
        calls += write_on(1, [0], 0, 1, 99)
        self.assertEqual(last(*calls, see_node(0)), [1, 1, 1, 5, 1, 0, 99, 1, 3, 7])

    def test_each_node_holds_its_own(self):
        calls = written_to((1, 1, 1), [0, 2], 3, 1, 7)
        held = [last(*calls, see_node(node))[4:7] for node in range(3)]
        self.assertEqual(held, [[1, 3, 7], [0, 0, 0], [1, 3, 7]])

    def test_asking_changes_nothing(self):
        calls = [begin(1), write(2, 1, 7), take(0)]
        self.assertEqual(last(*calls, see_node(0)), [1] + [0] * 9)
        self.assertEqual(last(*calls, take(0), see_node(0)), [1] + [0] * 9)


class Keep(unittest.TestCase):
    def held_between(self, calls, *more):
        """What the node holds of cell 0 ahead of these calls and behind each."""
        sight = [see_node(0)]
        for call in more:
            sight += [call, see_node(0)]
        return [tuple(answer[1:4]) for answer in ask(*calls, *sight)[len(calls)::2]]

    def test_a_greater_number(self):
        calls = written_to((1,), [0], 3, 0, 7) + [write(1, 0, 5), take(0), take(0)]
        self.assertEqual(self.held_between(calls, take(0), take(0)), [(1, 3, 7), (2, 1, 5), (2, 1, 5)])

    def test_an_equal_stamp(self):
        calls = [begin(1), write(1, 0, 5), take(0), take(0)]
        self.assertEqual(self.held_between(calls, again(0), again(0)), [(0, 0, 0), (1, 1, 5), (1, 1, 5)])
        self.assertEqual(ask(*calls, again(0), again(0))[-2:], [[1], [1]])

    def test_a_greater_and_a_lesser_client_of_equal_numbers(self):
        # Both hear of the zero copy; client 2's keep is the first in the row, client 1's the second.
        calls = [begin(1), write(2, 0, 5), write(1, 0, 6), take(0), take(0), take(0), take(0)]
        self.assertEqual(self.held_between(calls, again(0), again(1)), [(0, 0, 0), (1, 2, 5), (1, 2, 5)])
        self.assertEqual(self.held_between(calls, again(1), again(0)), [(0, 0, 0), (1, 1, 6), (1, 2, 5)])
        self.assertEqual(ask(*calls, again(0), again(1))[-2:], [[1], [1]])

    def test_a_lesser_number(self):
        # Client 3's keep lies on while its write ends and client 1 writes with a greater number.
        calls = [begin(1), write(3, 0, 7), take(0), take(0), again(0), take(1)]
        calls += [write(1, 0, 5), take(1), take(1), take(1), take(1)]
        self.assertEqual(self.held_between(calls, take(0)), [(2, 1, 5), (2, 1, 5)])
        self.assertEqual(last(*calls, take(0)), [1])

    def test_what_a_read_has_kept(self):
        calls = [begin(1, 1, 1), write(2, 0, 7)] + round_trips(3, [0, 1]) + round_trips(3, [1])
        calls += [read(0, 0)] + round_trips(3, [0, 1])
        self.assertEqual(self.held_between(calls, take(0)), [(0, 0, 0), (1, 2, 7)])

    def test_a_keep_that_is_lost(self):
        calls = [begin(1), write(1, 0, 5), take(0), take(0), lose(0)]
        self.assertEqual(last(*calls, see_node(0)), [1] + [0] * 9)


if __name__ == "__main__":
    unittest.main()
