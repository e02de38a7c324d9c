"""The interface: how calls are written, what is given back, and -9 where there is no world."""

import contextlib
import io
import unittest

from cellsbymost.world import answers
from runs import drawn_line
from talk import (again, ask, begin, line_of, lose, nudge, quit, read, round_trips, see_client, see_letters, see_node,
                  see_record, seen_after, start, stop, take, write)

NEED_A_WORLD = (read(0, 0), write(0, 0, 1), take(0), again(0), lose(0), nudge(0), quit(0), stop(0), start(0),
                see_letters(), see_node(0), see_client(0), see_record())

# Each of the fourteen calls, and its answer.
ALL_CALLS = ((begin(1), [0]), (write(0, 0, 7), [1]), (see_letters(), [1, 0, 0, 0, 1, 0, 0, 0, 0]), (again(0), [1]),
             (lose(0), [0]), (nudge(0), [1]), (take(0), [3]), (see_client(0), [1, 0, 0, 1, 1, 1, 0, 7]), (stop(0), [0]),
             (take(1), [0]), (start(0), [0]), (see_node(0), [1, 0, 0, 0, 0, 0, 0, 0, 0, 0]), (quit(0), [0]),
             (read(1, 0), [1]), (see_record(), [2, 0, 0, 1, 7, 0, -1, -1, 1, 0, 0, 0, 1, -1, -1]))
ALL_IN_ONE = line_of([call for call, answer in ALL_CALLS])


class OnlyRead(list):
    """A list that fails where it is changed."""

    def fail(self, *arguments):
        raise AssertionError("what was handed in is changed")

    append = extend = insert = pop = remove = clear = reverse = sort = fail
    __setitem__ = __delitem__ = __iadd__ = __imul__ = fail


class NoWorld(unittest.TestCase):
    def test_minus_9_at_the_beginning(self):
        for call in NEED_A_WORLD:
            self.assertEqual(ask(call), [[-9]])

    def test_minus_9_ahead_of_other_refusals(self):
        for call in (read(9, 9), write(9, 9, 200), take(200), again(200), lose(200), nudge(9), quit(9), stop(9),
                     start(9), see_node(9), see_client(9)):
            self.assertEqual(ask(call), [[-9]])

    def test_minus_9_after_a_refused_begin(self):
        for refused in (begin(), begin(0), begin(10), begin(1, 1, 1, 1, 1, 1)):
            for call in NEED_A_WORLD:
                self.assertEqual(ask(refused, call), [[-1], [-9]])

    def test_minus_9_in_one_list(self):
        self.assertEqual(ask(*NEED_A_WORLD), [[-9]] * 13)
        self.assertEqual(ask(*NEED_A_WORLD, begin(), *NEED_A_WORLD), [[-9]] * 13 + [[-1]] + [[-9]] * 13)

    def test_a_world_after_minus_9(self):
        self.assertEqual(ask(read(0, 0), begin(1), read(0, 0)), [[-9], [0], [1]])


class Interface(unittest.TestCase):
    def test_counts_and_numbers(self):
        self.assertEqual(answers([0, 1, 1]), [1, 0])
        self.assertEqual(answers([0, 0]), [1, -1])
        self.assertEqual(answers([0, 1, 1, 1, 0, 0, 3, 0, 3, 0]), [1, 0, 1, 1, 1, 1, 2, 4, 0])

    def test_each_call_by_its_number(self):
        calls = [0, 1, 1, 2, 0, 0, 7, 3, 0, 4, 0, 5, 0, 6, 0, 3, 0, 3, 1, 1, 1, 0, 1, 9, 0]
        self.assertEqual(answers(calls), [1, 0, 1, 1, 1, 1, 1, 3, 1, 0, 1, 1, 1, 1, 2, 4, 0, 1, 1, 1, -1])

    def test_the_calls_that_came_last_by_their_numbers(self):
        calls = [0, 1, 1, 7, 3, 8, 0, 9, 0, 10, 11, 0, 12, 3, 13]
        self.assertEqual(answers(calls), [1, 0] * 5 + [10, 1, 0, 0, 0, 0, 0, 0, 0, 0, 0] + [2, 0, 1] + [1, 0])

    def test_all_fourteen_in_one_list(self):
        self.assertEqual({call[0] for call, answer in ALL_CALLS}, set(range(14)))
        self.assertEqual(answers(ALL_IN_ONE),
                         [number for call, answer in ALL_CALLS for number in [len(answer)] + answer])

    def test_100_calls_in_a_list(self):
        calls = [begin(1), write(3, 2, 7), take(0), take(0), take(0), take(0)] + [read(0, 2), take(0), take(0)] * 31
        calls += [see_record()]
        self.assertEqual(len(calls), 100)
        told = ask(*calls)
        self.assertEqual(told[:6], [[0], [1], [1], [3], [1], [4, 0]])
        for count in range(31):
            self.assertEqual(told[6 + 3 * count:9 + 3 * count], [[count + 1], [1], [4, 7]])
        self.assertEqual(told[-1][:8] + told[-1][-7:], [32, 3, 2, 1, 7, 0, 1, 0, 0, 2, 0, 0, 62, 63, 7])
        self.assertEqual(len(told[-1]), 1 + 7 * 32)

    def test_100_calls_with_the_longest_answers(self):
        told = ask(begin(1, 1, 1, 1, 1), read(0, 0), *[nudge(0)] * 19, *[see_letters()] * 79)
        self.assertEqual(len(told), 100)
        self.assertEqual([len(answer) for answer in told], [1] * 21 + [801] * 79)

    def test_100_calls_without_a_world(self):
        self.assertEqual(answers(see_letters() * 100), [1, -9] * 100)

    def test_begin_as_long_as_its_row(self):
        self.assertEqual(answers([0, 10, 1, 1, 1, 1, 1, 1, 1, 1, 1, 1, 0, 2, 3, 4, 1, 0, 0]), [1, -1, 1, 0, 1, 1])
        self.assertEqual(answers([0, 0, 0, 0, 6, 0]), [1, -1, 1, -1, 1, -9])

    def test_what_is_handed_in_stays_the_same(self):
        calls = line_of([begin(1, 2, 3), write(0, 0, 7), take(2), again(2), lose(0), nudge(0), begin(), begin(9)])
        for calls in (calls, list(ALL_IN_ONE), line_of(drawn_line(5, 100))):
            before = list(calls)
            answers(calls)
            self.assertEqual(calls, before)

    def test_what_is_handed_in_is_not_changed_for_a_while_either(self):
        self.assertEqual(answers(OnlyRead(ALL_IN_ONE)), answers(ALL_IN_ONE))

    def test_the_same_list_gives_the_same(self):
        calls = line_of([begin(1, 2, 3), write(0, 0, 7), take(2), again(2), lose(0), nudge(0), read(1, 2)])
        for calls in (calls, ALL_IN_ONE, line_of(drawn_line(5, 100))):
            self.assertEqual(answers(calls), answers(calls))

    def test_nothing_is_kept_from_one_time_to_the_next(self):
        answers(line_of([begin(1), read(0, 0), quit(1), stop(0)]))
        for call in NEED_A_WORLD:
            self.assertEqual(answers(call), [1, -9])
        self.assertEqual(answers(ALL_IN_ONE), answers(list(ALL_IN_ONE)))

    def test_what_is_given_back_is_new(self):
        first = answers(begin(1))
        first.append(5)
        self.assertEqual(answers(begin(1)), [1, 0])

    def test_kinds(self):
        keeps = [begin(1, 1, 1), write(2, 0, 7)] + round_trips(3, [0, 1]) + round_trips(3, [1]) + [see_client(2)]
        keeps += [read(0, 0)] + round_trips(3, [0, 1]) + [see_client(0), quit(0), see_client(0), see_client(1)]
        keeps += [stop(0), see_node(0), see_node(1), start(0), see_node(0), see_letters(), see_record()]
        written = [begin(1), write(0, 0, 7), take(0), take(0), take(0), take(0), nudge(0), see_record(), see_client(0)]
        for calls in (written, keeps, [begin(1, 1), read(0, 0), see_client(0), see_record()], drawn_line(5, 100)):
            given = answers(line_of(calls))
            self.assertIs(type(given), list)
            self.assertEqual({type(number) for number in given}, {int})
        self.assertEqual({type(number) for number in answers(ALL_IN_ONE)}, {int})

    def test_only_the_record_has_numbers_below_0_behind_the_first(self):
        for number in range(10):
            calls = drawn_line(number, 90)
            seen = seen_after(*calls)
            # The record is told second, behind the letters.
            for answer in ask(*calls) + seen[:1] + seen[2:]:
                self.assertTrue(len(answer) == 1 or min(answer) >= 0, answer)

    def test_nothing_is_printed(self):
        printed = io.StringIO()
        with contextlib.redirect_stdout(printed), contextlib.redirect_stderr(printed):
            answers(line_of([begin(1), read(0, 0), take(0), take(0), take(0)]))
            answers(ALL_IN_ONE)
        self.assertEqual(printed.getvalue(), "")

    def test_long_lists_are_gone_through_by_loops(self):
        calls = line_of([begin(1, 1, 1, 1, 1), read(0, 0)] + [nudge(0)] * 3000)
        self.assertEqual(answers(calls), [1, 0, 1, 1] + [1, 5] * 3000)


if __name__ == "__main__":
    unittest.main()
