"""Promise 2: read and write."""

import unittest

from talk import ask, begin, last, read, row_length, take, write, write_on, written_to


class ReadAndWrite(unittest.TestCase):
    def test_numbers_from_one_on_client_by_client(self):
        calls = [begin(1)]
        for client in range(4):
            for number in range(1, 4):
                calls.append(read(client, 0))
                self.assertEqual(last(*calls), [number])
                calls += [take(0), take(0)]
        self.assertEqual(last(*calls, write(2, 1, 5)), [4])

    def test_reads_and_writes_are_numbered_together(self):
        calls = written_to((1,), [0], 1, 0, 7)
        self.assertEqual(last(*calls, read(1, 0)), [2])
        self.assertEqual(last(*calls, write(1, 0, 8)), [2])
        self.assertEqual(last(*calls, read(0, 0)), [1])

    def test_no_such_client(self):
        for client in range(4, 10):
            self.assertEqual(ask(begin(1), read(client, 0), write(client, 0, 1)), [[0], [-1], [-1]])
        self.assertEqual(ask(begin(1), read(3, 0), write(2, 0, 1)), [[0], [1], [1]])

    def test_no_such_cell(self):
        for cell in range(3, 10):
            self.assertEqual(ask(begin(1), read(0, cell), write(0, cell, 1)), [[0], [-1], [-1]])
        self.assertEqual(ask(begin(1), read(0, 2), write(1, 2, 1)), [[0], [1], [1]])

    def test_value_above_99(self):
        for value in (100, 101, 200):
            self.assertEqual(ask(begin(1), write(0, 0, value)), [[0], [-1]])

    def test_values_from_0_to_99(self):
        for value in (0, 1, 98, 99):
            calls = written_to((1,), [0], 0, 0, value)
            self.assertEqual(last(*calls), [4, 0])
            self.assertEqual(last(*calls, read(1, 0), take(0), take(0)), [4, value])

    def test_one_under_way(self):
        for first in (read(0, 0), write(0, 0, 1)):
            told = ask(begin(1), first, read(0, 1), write(0, 1, 5), read(1, 0))
            self.assertEqual(told, [[0], [1], [-2], [-2], [1]])

    def test_one_under_way_that_has_something_kept(self):
        self.assertEqual(ask(begin(1), write(0, 0, 1), take(0), take(0), read(0, 0))[-2:], [[3], [-2]])

    def test_minus_1_ahead_of_minus_2(self):
        calls = [begin(1), read(0, 0)]
        self.assertEqual(last(*calls, read(0, 3)), [-1])
        self.assertEqual(last(*calls, write(0, 3, 1)), [-1])
        self.assertEqual(last(*calls, write(0, 0, 100)), [-1])

    def test_refusals_change_nothing(self):
        refused = [read(4, 0), read(0, 3), write(4, 0, 1), write(0, 3, 1), write(0, 0, 100)]
        self.assertEqual(row_length(begin(1, 1), *refused), 0)
        self.assertEqual(last(begin(1, 1), *refused, read(0, 0)), [1])
        self.assertEqual(row_length(begin(1, 1), read(0, 0), *refused, read(0, 0), write(0, 0, 1)), 2)

    def test_asks_each_node_in_order(self):
        # Nodes of weight 1, 2 and 4: only the last is most by itself.
        for first in (read(0, 0), write(0, 0, 1)):
            calls = [begin(1, 2, 4), first]
            self.assertEqual(row_length(*calls), 3)
            self.assertEqual(last(*calls, take(0), take(2)), [2])
            self.assertEqual(last(*calls, take(1), take(2)), [2])
            self.assertNotEqual(last(*calls, take(2), take(2)), [2])

    def test_clients_at_the_same_time(self):
        told = ask(begin(1), read(0, 0), read(1, 1), write(2, 2, 5), write(3, 0, 6))
        self.assertEqual(told, [[0], [1], [1], [1], [1]])

    def test_cells_are_apart(self):
        calls = written_to((1,), [0], 0, 1, 7) + write_on(1, [0], 0, 2, 8)
        for cell, value in ((0, 0), (1, 7), (2, 8)):
            self.assertEqual(last(*calls, read(1, cell), take(0), take(0)), [4, value])


if __name__ == "__main__":
    unittest.main()
