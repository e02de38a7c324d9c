"""The row of 100 letters: what finds no room is lost, and nothing else changes by that."""

import unittest

from talk import again, ask, begin, last, lose, nudge, read, row_length, take, write

# A read and 19 nudges to five nodes fill the row.
FULL = [begin(1, 1, 1, 1, 1), read(0, 0)] + [nudge(0)] * 19


class FullRow(unittest.TestCase):
    def test_100_have_room(self):
        self.assertEqual(row_length(*FULL[:-1]), 95)
        self.assertEqual(row_length(*FULL), 100)
        self.assertEqual(last(*FULL, take(99)), [1])
        self.assertEqual(last(*FULL, take(100)), [-1])

    def test_a_nudge_that_finds_no_room(self):
        self.assertEqual(last(*FULL, nudge(0)), [5])
        self.assertEqual(row_length(*FULL, nudge(0)), 100)

    def test_an_operation_begins_where_its_letters_find_no_room(self):
        told = ask(*FULL, read(1, 0), write(2, 0, 5), read(1, 0), nudge(2))
        self.assertEqual(told[len(FULL):], [[1], [1], [-2], [5]])
        self.assertEqual(row_length(*FULL, read(1, 0), write(2, 0, 5)), 100)

    def test_the_first_find_room_and_the_others_are_lost(self):
        calls = FULL + [lose(0), lose(0), read(1, 0)]
        self.assertEqual(last(*calls), [1])
        self.assertEqual(row_length(*calls), 100)
        # Two nodes answer client 1 from the last two places; three are left that it hasn't heard of.
        told = ask(*calls, take(98), take(99), take(98), take(98), nudge(1))
        self.assertEqual(told[len(calls):], [[1], [2], [1], [2], [3]])

    def test_take_makes_room_for_the_answer(self):
        self.assertEqual(row_length(*FULL, take(0)), 100)
        self.assertEqual(ask(*FULL, take(0), take(99))[-2:], [[1], [2]])

    def test_again_makes_none_and_the_answer_is_lost(self):
        self.assertEqual(last(*FULL, again(0)), [1])
        self.assertEqual(row_length(*FULL, again(0)), 100)
        # In the last place still lies what was there, a letter that asks.
        self.assertEqual(last(*FULL, again(0), take(99)), [1])

    def test_again_where_there_is_room_for_one(self):
        told = ask(*FULL, lose(99), again(0), again(0), again(99), again(99))
        self.assertEqual(told[len(FULL):], [[0], [1], [1], [2], [0]])

    def test_a_copy_is_kept_where_the_answer_is_lost(self):
        # The letter that asks node 0 is the last one that finds room, then its answer and the keep lie there.
        fill = [read(0, 0)] + [nudge(0)] * 98
        calls = [begin(1)] + fill + [write(1, 0, 7), take(99), take(99), nudge(0), again(99)]
        told = ask(*calls, nudge(1), take(0), take(99))
        self.assertEqual(told[len(calls) - 4:len(calls)], [[1], [3], [1], [1]])
        self.assertEqual(row_length(*calls), 100)
        self.assertEqual(told[len(calls):], [[1], [1], [4, 7]])

    def test_a_client_goes_on_where_its_letters_find_no_room(self):
        calls = [begin(9, 1, 1, 1, 1), write(0, 0, 7)] + [nudge(0)] * 19 + [take(0), again(99)]
        self.assertEqual(last(*calls), [3])
        self.assertEqual(row_length(*calls), 100)
        told = ask(*calls, take(99), nudge(0), take(99), take(99))
        self.assertEqual(told[len(calls):], [[0], [5], [1], [4, 0]])

    def test_a_client_goes_on_where_one_letter_finds_room(self):
        calls = [begin(9, 1, 1, 1, 1), write(0, 0, 7)] + [nudge(0)] * 19 + [take(0), take(99)]
        self.assertEqual(last(*calls), [3])
        self.assertEqual(row_length(*calls), 100)
        self.assertEqual(ask(*calls, take(99), take(99))[-2:], [[1], [4, 0]])

    def test_there_is_room_again_after_a_loss(self):
        self.assertEqual(row_length(*FULL, nudge(0), *[lose(0)] * 5), 95)
        self.assertEqual(row_length(*FULL, nudge(0), *[lose(0)] * 5, nudge(0)), 100)


if __name__ == "__main__":
    unittest.main()
