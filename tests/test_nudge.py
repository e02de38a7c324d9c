"""Promise 6: nudge."""

import unittest

from talk import ask, begin, last, lose, nudge, read, round_trips, row_length, take, write, written_to


class Nudge(unittest.TestCase):
    def test_all_nodes_where_none_was_heard_of(self):
        for count in range(1, 6):
            for first in (read(0, 0), write(0, 0, 1)):
                calls = [begin(*[1] * count), first, nudge(0)]
                self.assertEqual(last(*calls), [count])
                self.assertEqual(row_length(*calls), 2 * count)

    def test_only_nodes_not_heard_of(self):
        for node in range(3):
            calls = [begin(1, 1, 1), read(0, 0)] + round_trips(3, [node]) + [nudge(0)]
            self.assertEqual(last(*calls), [2])
            self.assertEqual(row_length(*calls), 2)

    def test_in_order_while_it_asks(self):
        # Node 1 was heard of (weight 1 of 9): with node 3 (4) that's most, with node 0 (3) or 2 (1) it isn't.
        calls = [begin(3, 1, 1, 4), read(0, 0)] + round_trips(4, [1]) + [nudge(0)]
        self.assertEqual(last(*calls), [3])
        for letter, came in ((0, [2]), (1, [2]), (2, [4, 0])):
            self.assertEqual(ask(*calls, take(letter), take(2))[-2:], [[1], came])
        # Node 0 comes ahead of node 2: with nodes 1 and 0 heard of (4 of 9), node 2 (1) makes it most.
        told = ask(*calls, take(0), take(2), nudge(0), take(2), take(3))
        self.assertEqual(told[-5:], [[1], [2], [2], [1], [4, 0]])

    def test_nodes_of_weight_zero_are_nudged_too(self):
        self.assertEqual(last(begin(0, 1, 0), read(0, 0), nudge(0)), [3])

    def test_all_nodes_where_none_keeps_a_write(self):
        calls = [begin(1, 1, 1), write(0, 0, 7)] + round_trips(3, [0, 1]) + [nudge(0)]
        self.assertEqual(last(*calls), [3])
        self.assertEqual(row_length(*calls), 6)

    def test_only_nodes_not_known_to_keep(self):
        for node in range(3):
            calls = [begin(1, 1, 1), write(0, 0, 7)] + round_trips(3, [0, 1]) + round_trips(3, [node])
            self.assertEqual(last(*calls, nudge(0)), [2])
            self.assertEqual(row_length(*calls, nudge(0)), 2)

    def test_in_order_while_it_has_something_kept(self):
        # Node 1 keeps it (weight 1 of 9): with node 3 (4) that's most, with node 0 (3) or 2 (1) it isn't.
        calls = [begin(3, 1, 1, 4), write(0, 0, 7)] + round_trips(4, [0, 3]) + round_trips(4, [1]) + [nudge(0)]
        self.assertEqual(last(*calls), [3])
        for letter, came in ((0, [2]), (1, [2]), (2, [4, 0])):
            self.assertEqual(ask(*calls, take(letter), take(2))[-2:], [[1], came])

    def test_a_read_that_has_something_kept(self):
        calls = written_to((1, 1, 1), [0, 1], 0, 0, 7) + [read(1, 0)] + round_trips(3, [2, 0])
        self.assertEqual(last(*calls), [3])
        self.assertEqual(last(*calls, lose(0), lose(0), nudge(1)), [2])
        self.assertEqual(ask(*calls, lose(0), lose(0), nudge(1), take(1), take(1))[-2:], [[1], [4, 7]])

    def test_what_is_sent_again_is_the_same(self):
        calls = [begin(1), write(0, 0, 7), take(0), take(0), lose(0), nudge(0), take(0), take(0)]
        self.assertEqual(ask(*calls)[-3:], [[1], [1], [4, 0]])
        self.assertEqual(last(*calls, read(1, 0), take(0), take(0)), [4, 7])

    def test_of_the_operation_that_is_under_way(self):
        calls = written_to((1,), [0], 0, 1, 7) + [read(0, 1), lose(0), nudge(0), take(0), take(0)]
        self.assertEqual(ask(*calls)[-5:], [[2], [0], [1], [1], [4, 7]])

    def test_letters_sent_before_still_count(self):
        told = ask(begin(1), read(0, 0), nudge(0), take(0), take(0), take(0), take(0))
        self.assertEqual(told, [[0], [1], [1], [1], [1], [4, 0], [0]])

    def test_no_such_client(self):
        for client in range(4, 10):
            self.assertEqual(last(begin(1), nudge(client)), [-1])
            self.assertEqual(row_length(begin(1), read(0, 0), nudge(client)), 1)

    def test_nothing_under_way(self):
        for client in range(4):
            self.assertEqual(last(begin(1), nudge(client)), [-2])
        self.assertEqual(last(begin(1), read(0, 0), nudge(1)), [-2])
        self.assertEqual(last(begin(1), read(0, 0), take(0), take(0), nudge(0)), [-2])
        self.assertEqual(row_length(begin(1), read(0, 0), nudge(1)), 1)


if __name__ == "__main__":
    unittest.main()
