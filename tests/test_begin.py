"""Promise 1: begin."""

import unittest

from talk import ask, begin, last, lose, nudge, read, row_length, take, written_to


class Begin(unittest.TestCase):
    def test_one_to_five_nodes(self):
        for count in range(1, 6):
            self.assertEqual(ask(begin(*[1] * count)), [[0]])
            self.assertEqual(row_length(begin(*[1] * count), read(0, 0)), count)

    def test_no_weights(self):
        self.assertEqual(ask(begin()), [[-1]])

    def test_more_than_five(self):
        for count in range(6, 11):
            self.assertEqual(ask(begin(*[1] * count)), [[-1]])

    def test_weight_above_nine(self):
        self.assertEqual(ask(begin(9)), [[0]])
        for weight in (10, 11, 20):
            self.assertEqual(ask(begin(weight)), [[-1]])
            self.assertEqual(ask(begin(1, weight, 1)), [[-1]])
            self.assertEqual(ask(begin(0, 0, 0, 0, weight)), [[-1]])

    def test_all_weights_zero(self):
        for count in range(1, 6):
            self.assertEqual(ask(begin(*[0] * count)), [[-1]])

    def test_some_weights_zero(self):
        for weights in ((0, 1), (1, 0), (0, 0, 0, 0, 9), (0, 3, 0)):
            self.assertEqual(ask(begin(*weights)), [[0]])
            self.assertEqual(row_length(begin(*weights), read(0, 0)), len(weights))

    def test_row_is_empty_at_first(self):
        self.assertEqual(ask(begin(1), take(0), lose(0)), [[0], [-1], [-1]])

    def test_cells_are_zero_at_first(self):
        for cell in range(3):
            self.assertEqual(ask(begin(1), read(0, cell), take(0), take(0)), [[0], [1], [1], [4, 0]])

    def test_begin_again_makes_all_as_at_first(self):
        calls = written_to((1,), [0], 0, 0, 7) + [read(0, 0), read(1, 1), begin(1)]
        self.assertEqual(last(*calls), [0])
        self.assertEqual(row_length(*calls), 0)
        self.assertEqual(last(*calls, nudge(0)), [-2])
        self.assertEqual(ask(*calls, read(0, 0), take(0), take(0))[-3:], [[1], [1], [4, 0]])

    def test_begin_again_with_other_weights(self):
        self.assertEqual(row_length(begin(1, 1), read(0, 0), begin(1, 1, 1, 1), read(0, 0)), 4)

    def test_refused_begin_leaves_the_world(self):
        for weights in ((), (1,) * 6, (10,), (0, 0)):
            calls = written_to((1,), [0], 0, 0, 7) + [read(0, 0), begin(*weights)]
            self.assertEqual(last(*calls), [-1])
            self.assertEqual(row_length(*calls), 1)
            self.assertEqual(ask(*calls, read(0, 0), take(0), take(0))[-3:], [[-2], [1], [4, 7]])


if __name__ == "__main__":
    unittest.main()
