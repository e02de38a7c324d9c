"""Promise 5: lose."""

import unittest

from talk import again, ask, begin, last, lose, nudge, read, row_length, take, write, written_to


class Lose(unittest.TestCase):
    def test_it_is_taken_out(self):
        for letter in range(3):
            calls = [begin(1, 1, 1), read(0, 0), lose(letter)]
            self.assertEqual(last(*calls), [0])
            self.assertEqual(row_length(*calls), 2)

    def test_the_letters_behind_move_up(self):
        # Of the weights 1, 1 and 3 only the last node is most by itself.
        calls = [begin(1, 1, 3), read(0, 0)]
        self.assertEqual(ask(*calls, lose(0), take(1), take(1))[-3:], [[0], [1], [4, 0]])
        self.assertEqual(ask(*calls, lose(1), take(1), take(1))[-3:], [[0], [1], [4, 0]])
        self.assertEqual(ask(*calls, lose(0), take(0), take(1))[-3:], [[0], [1], [2]])
        self.assertEqual(ask(*calls, lose(2), take(1), take(1))[-3:], [[0], [1], [2]])

    def test_what_is_lost_is_not_handed_over(self):
        calls = [begin(1), read(0, 0), take(0), lose(0)]
        self.assertEqual(last(*calls, take(0)), [-1])
        self.assertEqual(last(*calls, nudge(0)), [1])

    def test_a_lost_keep_is_not_kept(self):
        calls = written_to((1,), [0], 0, 0, 5) + [write(0, 0, 6), take(0), take(0), lose(0)]
        self.assertEqual(ask(*calls, read(1, 0), take(0), take(0))[-3:], [[1], [1], [4, 5]])

    def test_one_of_two_that_came_twice(self):
        told = ask(begin(1), read(0, 0), again(0), again(0), lose(1), take(1), lose(0))
        self.assertEqual(told, [[0], [1], [1], [1], [0], [4, 0], [0]])

    def test_no_such_letter(self):
        self.assertEqual(last(begin(1), lose(0)), [-1])
        for letter in (3, 4, 99, 100, 200):
            calls = [begin(1, 1, 1), read(0, 0), lose(letter)]
            self.assertEqual(last(*calls), [-1])
            self.assertEqual(row_length(*calls), 3)


if __name__ == "__main__":
    unittest.main()
