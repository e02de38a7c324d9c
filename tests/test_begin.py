"""Promise 1: begin."""

import unittest

from talk import (again, ask, begin, last, letters_after, lose, nudge, quit, read, row_length, see_client, see_node,
                  seen_after, start, stop, take, write, written_to)

# The letters, the record, nodes 0 to 4 and clients 0 to 3 of a world of three nodes as at first.
AT_FIRST = [[0], [0]] + [[1] + [0] * 9] * 3 + [[-1]] * 2 + [[0, 0]] * 4


class Begin(unittest.TestCase):
    def test_one_to_five_nodes(self):
        for count in range(1, 6):
            self.assertEqual(ask(begin(*[1] * count)), [[0]])
            self.assertEqual(row_length(begin(*[1] * count), read(0, 0)), count)

    def test_no_weights(self):
        self.assertEqual(ask(begin()), [[-1]])

    def test_more_than_five(self):
        for count in range(6, 11):
            self.assertEqual(ask(begin(*[1] * count)), [[-1]])

    def test_weight_above_nine(self):
        self.assertEqual(ask(begin(9)), [[0]])
        for weight in (10, 11, 20):
            self.assertEqual(ask(begin(weight)), [[-1]])
            self.assertEqual(ask(begin(1, weight, 1)), [[-1]])
            self.assertEqual(ask(begin(0, 0, 0, 0, weight)), [[-1]])

    def test_all_weights_zero(self):
        for count in range(1, 6):
            self.assertEqual(ask(begin(*[0] * count)), [[-1]])

    def test_some_weights_zero(self):
        for weights in ((0, 1), (1, 0), (0, 0, 0, 0, 9), (0, 3, 0)):
            self.assertEqual(ask(begin(*weights)), [[0]])
            self.assertEqual(row_length(begin(*weights), read(0, 0)), len(weights))

    def test_row_is_empty_at_first(self):
        self.assertEqual(ask(begin(1), take(0), lose(0)), [[0], [-1], [-1]])

    def test_cells_are_zero_at_first(self):
        for cell in range(3):
            self.assertEqual(ask(begin(1), read(0, cell), take(0), take(0)), [[0], [1], [1], [4, 0]])

    def test_begin_again_makes_all_as_at_first(self):
        calls = written_to((1,), [0], 0, 0, 7) + [read(0, 0), read(1, 1), begin(1)]
        self.assertEqual(last(*calls), [0])
        self.assertEqual(row_length(*calls), 0)
        self.assertEqual(last(*calls, nudge(0)), [-2])
        self.assertEqual(ask(*calls, read(0, 0), take(0), take(0))[-3:], [[1], [1], [4, 0]])

    def test_all_is_as_at_first(self):
        self.assertEqual(seen_after(begin(1, 1, 1)), AT_FIRST)
        self.assertEqual(seen_after(begin(0, 9, 3)), AT_FIRST)

    def test_begin_again_makes_all_that_is_told_as_at_first(self):
        calls = written_to((1, 1, 1), [0, 1], 0, 0, 7) + [read(0, 0), again(0), write(1, 2, 5)]
        calls += [quit(0), quit(3), stop(1)]
        self.assertNotIn([0], seen_after(*calls)[:2])
        self.assertEqual(seen_after(*calls, begin(1, 1, 1)), AT_FIRST)

    def test_clients_that_were_gone_are_there_again(self):
        calls = [begin(1), read(2, 0), quit(2), quit(1), begin(1)]
        for client in range(4):
            self.assertEqual(last(*calls, see_client(client)), [0, 0])
            self.assertEqual(ask(*calls, read(client, 0), nudge(client), quit(client))[-3:], [[1], [1], [0]])

    def test_nodes_that_had_stopped_run_again(self):
        calls = [begin(1, 1), stop(0), stop(1), begin(1, 1)]
        for node in range(2):
            self.assertEqual(last(*calls, see_node(node))[0], 1)
            self.assertEqual(ask(*calls, start(node), stop(node))[-2:], [[-2], [0]])
            self.assertEqual(last(*calls, read(0, 0), take(node)), [1])

    def test_operations_are_numbered_from_1_on_again(self):
        calls = written_to((1,), [0], 2, 1, 7) + [read(2, 0), begin(1), write(2, 1, 8)]
        self.assertEqual(last(*calls), [1])
        self.assertEqual(letters_after(*calls), [(0, 0, 2, 1, 1, 0, 0, 0)])

    def test_begin_again_with_other_weights(self):
        self.assertEqual(row_length(begin(1, 1), read(0, 0), begin(1, 1, 1, 1), read(0, 0)), 4)

    def test_refused_begin_leaves_the_world(self):
        for weights in ((), (1,) * 6, (10,), (0, 0)):
            calls = written_to((1,), [0], 0, 0, 7) + [read(0, 0), begin(*weights)]
            self.assertEqual(last(*calls), [-1])
            self.assertEqual(row_length(*calls), 1)
            self.assertEqual(ask(*calls, read(0, 0), take(0), take(0))[-3:], [[-2], [1], [4, 7]])
            calls = written_to((1, 1, 1), [0, 1], 0, 0, 7) + [read(0, 0), quit(1), stop(2)]
            self.assertEqual(seen_after(*calls, begin(*weights)), seen_after(*calls))


if __name__ == "__main__":
    unittest.main()
