"""Promise 9: letters."""

import unittest

from talk import (again, ask, begin, last, letters_after, lose, nudge, read, round_trips, row_length, see_letters,
                  start, stop, take, write, written_to)

# A read and 19 nudges to five nodes fill the row.
FULL = [begin(1, 1, 1, 1, 1), read(0, 0)] + [nudge(0)] * 19


class Letters(unittest.TestCase):
    def test_an_empty_row(self):
        self.assertEqual(last(begin(1), see_letters()), [0])
        self.assertEqual(last(begin(1), read(0, 0), take(0), take(0), see_letters()), [0])
        self.assertEqual(last(begin(1), read(0, 0), lose(0), see_letters()), [0])

    def test_how_many_and_eight_numbers_of_each(self):
        self.assertEqual(last(begin(1), read(0, 0), see_letters()), [1, 0, 0, 0, 1, 0, 0, 0, 0])
        self.assertEqual(last(begin(1, 1), write(3, 2, 7), see_letters()),
                         [2, 0, 0, 3, 1, 2, 0, 0, 0, 0, 1, 3, 1, 2, 0, 0, 0])

    def test_the_four_kinds(self):
        calls = [begin(1, 1), write(3, 2, 7)]
        self.assertEqual(letters_after(*calls), [(0, 0, 3, 1, 2, 0, 0, 0), (0, 1, 3, 1, 2, 0, 0, 0)])
        calls += [take(0)]
        self.assertEqual(letters_after(*calls), [(0, 1, 3, 1, 2, 0, 0, 0), (1, 3, 0, 1, 2, 0, 0, 0)])
        calls += [take(1), take(0), take(0)]
        self.assertEqual(letters_after(*calls), [(2, 0, 3, 1, 2, 1, 3, 7), (2, 1, 3, 1, 2, 1, 3, 7)])
        calls += [take(1)]
        self.assertEqual(letters_after(*calls), [(2, 0, 3, 1, 2, 1, 3, 7), (3, 3, 1, 1, 2, 0, 0, 0)])

    def test_what_a_node_tells_is_its_copy(self):
        calls = written_to((1,), [0], 2, 1, 7)
        self.assertEqual(letters_after(*calls, read(3, 1), take(0)), [(1, 3, 0, 1, 1, 1, 2, 7)])
        self.assertEqual(letters_after(*calls, read(3, 0), take(0)), [(1, 3, 0, 1, 0, 0, 0, 0)])

    def test_only_telling_and_keep_tell_a_copy(self):
        # The node holds a copy, yet asking for it and saying kept tell none.
        calls = written_to((1,), [0], 2, 1, 7) + [write(2, 1, 8)]
        self.assertEqual(letters_after(*calls), [(0, 0, 2, 2, 1, 0, 0, 0)])
        self.assertEqual(letters_after(*calls, take(0)), [(1, 2, 0, 2, 1, 1, 2, 7)])
        self.assertEqual(letters_after(*calls, take(0), take(0)), [(2, 0, 2, 2, 1, 2, 2, 8)])
        self.assertEqual(letters_after(*calls, take(0), take(0), take(0)), [(3, 2, 0, 2, 1, 0, 0, 0)])

    def test_a_read_that_has_the_best_kept(self):
        # Node 1 alone keeps the value, so that a read of nodes 0 and 1 goes on.
        calls = [begin(1, 1, 1), write(2, 0, 7)] + round_trips(3, [0, 1]) + round_trips(3, [1])
        calls += [read(0, 0), take(0), take(0)]
        asked = (0, 2, 0, 1, 0, 0, 0, 0)
        self.assertEqual(letters_after(*calls), [asked, (1, 0, 0, 1, 0, 0, 0, 0), (1, 0, 1, 1, 0, 1, 2, 7)])
        calls += [take(1), take(1)]
        self.assertEqual(ask(*calls)[-2:], [[2], [3]])
        self.assertEqual(letters_after(*calls), [asked, (2, 0, 0, 1, 0, 1, 2, 7), (2, 2, 0, 1, 0, 1, 2, 7)])

    def test_an_operation_keeps_its_own_number(self):
        calls = [begin(1), read(1, 0), again(0), take(1), read(1, 2), read(0, 1)]
        self.assertEqual(letters_after(*calls), [(0, 0, 1, 1, 0, 0, 0, 0), (0, 0, 1, 2, 2, 0, 0, 0),
                                                 (0, 0, 0, 1, 1, 0, 0, 0)])
        # An answer has the number of what it answers, also where that is past.
        self.assertEqual(letters_after(*calls, take(0))[-1], (1, 1, 0, 1, 0, 0, 0, 0))

    def test_nudges(self):
        calls = [begin(1, 1, 1), read(2, 1), take(1), take(2), nudge(2)]
        self.assertEqual(letters_after(*calls)[2:], [(0, 0, 2, 1, 1, 0, 0, 0), (0, 2, 2, 1, 1, 0, 0, 0)])
        calls = [begin(1, 1, 1), write(2, 1, 7)] + round_trips(3, [0, 1]) + round_trips(3, [1]) + [nudge(2)]
        self.assertEqual(letters_after(*calls), [(2, 0, 2, 1, 1, 1, 2, 7), (2, 2, 2, 1, 1, 1, 2, 7)])


class TheRow(unittest.TestCase):
    def to_and_kind(self, *calls):
        return [(letter[1], letter[0]) for letter in letters_after(*calls)]

    def test_in_the_order_in_which_they_were_sent(self):
        calls = [begin(1, 1, 1), read(3, 0), take(1)]
        self.assertEqual(self.to_and_kind(*calls), [(0, 0), (2, 0), (3, 1)])
        self.assertEqual(self.to_and_kind(*calls, read(1, 0)), [(0, 0), (2, 0), (3, 1), (0, 0), (1, 0), (2, 0)])

    def test_what_is_handed_over_again_lies_on_in_its_place(self):
        calls = [begin(1, 1, 1), read(3, 0), again(1)]
        self.assertEqual(self.to_and_kind(*calls), [(0, 0), (1, 0), (2, 0), (3, 1)])
        self.assertEqual(self.to_and_kind(*calls, again(3)), [(0, 0), (1, 0), (2, 0), (3, 1)])

    def test_what_is_lost_is_not_there(self):
        calls = [begin(1, 1, 1), read(3, 0)]
        self.assertEqual(self.to_and_kind(*calls, lose(0)), [(1, 0), (2, 0)])
        self.assertEqual(self.to_and_kind(*calls, lose(1)), [(0, 0), (2, 0)])
        self.assertEqual(self.to_and_kind(*calls, lose(2)), [(0, 0), (1, 0)])

    def test_what_is_taken_is_not_there(self):
        calls = [begin(1), stop(0), read(3, 0)]
        self.assertEqual(last(*calls, take(0), see_letters()), [0])
        self.assertEqual(last(*calls, take(0), start(0), see_letters()), [0])

    def test_a_full_row(self):
        answer = last(*FULL, see_letters())
        self.assertEqual(len(answer), 801)
        self.assertEqual(letters_after(*FULL), [(0, node, 0, 1, 0, 0, 0, 0) for node in range(5)] * 20)

    def test_what_finds_no_room_is_not_there(self):
        full = letters_after(*FULL)
        for call in (nudge(0), read(1, 1), write(2, 1, 7), again(0)):
            self.assertEqual(letters_after(*FULL, call), full)
        self.assertEqual(letters_after(*FULL, lose(0), read(1, 1)), full[1:] + [(0, 0, 1, 1, 1, 0, 0, 0)])
        self.assertEqual(letters_after(*FULL, take(0)), full[1:] + [(1, 0, 0, 1, 0, 0, 0, 0)])

    def test_as_many_as_can_be_lost(self):
        for calls in (FULL, FULL + [lose(5)], [begin(1)], [begin(1, 2, 3), read(0, 0), again(2)]):
            self.assertEqual(last(*calls, see_letters())[0], row_length(*calls))


if __name__ == "__main__":
    unittest.main()
