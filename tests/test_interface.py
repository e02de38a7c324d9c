"""The interface: how calls are written, what is given back, and -9 where there is no world."""

import contextlib
import io
import unittest

from cellsbymost.world import answers
from talk import again, ask, begin, line_of, lose, nudge, read, take, write

NEED_A_WORLD = (read(0, 0), write(0, 0, 1), take(0), again(0), lose(0), nudge(0))


class NoWorld(unittest.TestCase):
    def test_minus_9_at_the_beginning(self):
        for call in NEED_A_WORLD:
            self.assertEqual(ask(call), [[-9]])

    def test_minus_9_ahead_of_other_refusals(self):
        for call in (read(9, 9), write(9, 9, 200), take(200), again(200), lose(200), nudge(9)):
            self.assertEqual(ask(call), [[-9]])

    def test_minus_9_after_a_refused_begin(self):
        for refused in (begin(), begin(0), begin(10), begin(1, 1, 1, 1, 1, 1)):
            for call in NEED_A_WORLD:
                self.assertEqual(ask(refused, call), [[-1], [-9]])

    def test_a_world_after_minus_9(self):
        self.assertEqual(ask(read(0, 0), begin(1), read(0, 0)), [[-9], [0], [1]])


class Interface(unittest.TestCase):
    def test_counts_and_numbers(self):
        self.assertEqual(answers([0, 1, 1]), [1, 0])
        self.assertEqual(answers([0, 0]), [1, -1])
        self.assertEqual(answers([0, 1, 1, 1, 0, 0, 3, 0, 3, 0]), [1, 0, 1, 1, 1, 1, 2, 4, 0])

    def test_each_call_by_its_number(self):
        calls = [0, 1, 1, 2, 0, 0, 7, 3, 0, 4, 0, 5, 0, 6, 0, 3, 0, 3, 1, 1, 1, 0, 1, 9, 0]
        self.assertEqual(answers(calls), [1, 0, 1, 1, 1, 1, 1, 3, 1, 0, 1, 1, 1, 1, 2, 4, 0, 1, 1, 1, -1])

    def test_begin_as_long_as_its_row(self):
        self.assertEqual(answers([0, 10, 1, 1, 1, 1, 1, 1, 1, 1, 1, 1, 0, 2, 3, 4, 1, 0, 0]), [1, -1, 1, 0, 1, 1])
        self.assertEqual(answers([0, 0, 0, 0, 6, 0]), [1, -1, 1, -1, 1, -9])

    def test_what_is_handed_in_stays_the_same(self):
        calls = line_of([begin(1, 2, 3), write(0, 0, 7), take(2), again(2), lose(0), nudge(0), begin(), begin(9)])
        before = list(calls)
        answers(calls)
        self.assertEqual(calls, before)

    def test_the_same_list_gives_the_same(self):
        calls = line_of([begin(1, 2, 3), write(0, 0, 7), take(2), again(2), lose(0), nudge(0), read(1, 2)])
        self.assertEqual(answers(calls), answers(calls))

    def test_nothing_is_kept_from_one_time_to_the_next(self):
        answers(line_of([begin(1), read(0, 0)]))
        self.assertEqual(answers(take(0)), [1, -9])

    def test_what_is_given_back_is_new(self):
        first = answers(begin(1))
        first.append(5)
        self.assertEqual(answers(begin(1)), [1, 0])

    def test_kinds(self):
        given = answers(line_of([begin(1), write(0, 0, 7), take(0), take(0), take(0), take(0), nudge(0)]))
        self.assertIs(type(given), list)
        self.assertEqual({type(number) for number in given}, {int})

    def test_nothing_is_printed(self):
        printed = io.StringIO()
        with contextlib.redirect_stdout(printed), contextlib.redirect_stderr(printed):
            answers(line_of([begin(1), read(0, 0), take(0), take(0), take(0)]))
        self.assertEqual(printed.getvalue(), "")

    def test_long_lists_are_gone_through_by_loops(self):
        calls = line_of([begin(1, 1, 1, 1, 1), read(0, 0)] + [nudge(0)] * 3000)
        self.assertEqual(answers(calls), [1, 0, 1, 1] + [1, 5] * 3000)


if __name__ == "__main__":
    unittest.main()
