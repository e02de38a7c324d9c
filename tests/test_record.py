"""Promise 12: record."""

import unittest

from talk import (ask, begin, last, lose, nudge, quit, read, record_after, round_trips, see_record, stop, take, write,
                  write_on, written_to)


class Record(unittest.TestCase):
    def test_none_began(self):
        self.assertEqual(last(begin(1), see_record()), [0])
        self.assertEqual(last(begin(1), quit(0), stop(0), see_record()), [0])

    def test_how_many_and_seven_numbers_of_each(self):
        self.assertEqual(last(begin(1), read(3, 2), see_record()), [1, 3, 2, 0, 0, 0, -1, -1])
        self.assertEqual(last(begin(1), write(2, 1, 7), read(3, 0), see_record()),
                         [2, 2, 1, 1, 7, 0, -1, -1, 3, 0, 0, 0, 1, -1, -1])

    def test_refused_ones_are_not_there(self):
        calls = [begin(1), read(4, 0), read(0, 3), write(0, 0, 100), read(0, 0), read(0, 1), write(0, 1, 5), nudge(1)]
        self.assertEqual(record_after(*calls), [(0, 0, 0, 0, 0, -1, -1)])
        # Nor do they count as events.
        self.assertEqual(record_after(*calls, read(1, 1))[1:], [(1, 1, 0, 0, 1, -1, -1)])

    def test_a_write_ends_with_0(self):
        self.assertEqual(record_after(*written_to((1,), [0], 2, 1, 7)), [(2, 1, 1, 7, 0, 1, 0)])
        self.assertEqual(record_after(*written_to((1,), [0], 2, 1, 0)), [(2, 1, 1, 0, 0, 1, 0)])

    def test_a_read_ends_with_the_value(self):
        self.assertEqual(record_after(begin(1), read(2, 1), take(0), take(0)), [(2, 1, 0, 0, 0, 1, 0)])
        calls = written_to((1,), [0], 2, 1, 7) + [read(2, 1), take(0), take(0)]
        self.assertEqual(record_after(*calls), [(2, 1, 1, 7, 0, 1, 0), (2, 1, 0, 0, 2, 3, 7)])

    def test_a_read_ends_with_what_it_has_kept(self):
        calls = [begin(1, 1, 1), write(2, 1, 7)] + round_trips(3, [0, 1]) + round_trips(3, [1])
        calls += [read(0, 1)] + round_trips(3, [0, 1])
        self.assertEqual(record_after(*calls)[1:], [(0, 1, 0, 0, 1, -1, -1)])
        self.assertEqual(record_after(*calls, take(0), take(1))[1:], [(0, 1, 0, 0, 1, 2, 7)])

    def test_going_on_is_no_event(self):
        calls = [begin(1), write(0, 0, 7), take(0), take(0)]
        self.assertEqual(record_after(*calls), [(0, 0, 1, 7, 0, -1, -1)])
        self.assertEqual(record_after(*calls, read(1, 0))[1:], [(1, 0, 0, 0, 1, -1, -1)])

    def test_beginnings_and_ends_are_counted_together(self):
        calls = [begin(1), write(2, 1, 7), read(0, 1), take(0), take(1), take(1), take(1)]
        self.assertEqual(record_after(*calls), [(2, 1, 1, 7, 0, 2, 0), (0, 1, 0, 0, 1, -1, -1)])
        calls += [take(0), take(0), read(2, 0)]
        self.assertEqual(record_after(*calls), [(2, 1, 1, 7, 0, 2, 0), (0, 1, 0, 0, 1, 3, 7),
                                                (2, 0, 0, 0, 4, -1, -1)])

    def test_in_the_order_of_beginning_and_not_of_ending(self):
        # The last to begin ends first.
        calls = [begin(1), read(3, 0), read(2, 1), read(1, 2)]
        calls += [take(2), take(2), take(1), take(1), take(0), take(0)]
        self.assertEqual(record_after(*calls), [(3, 0, 0, 0, 0, 5, 0), (2, 1, 0, 0, 1, 4, 0), (1, 2, 0, 0, 2, 3, 0)])

    def test_all_of_one_client(self):
        calls = written_to((1,), [0], 1, 0, 5) + write_on(1, [0], 1, 0, 6) + [read(1, 0), take(0), take(0)]
        self.assertEqual(record_after(*calls), [(1, 0, 1, 5, 0, 1, 0), (1, 0, 1, 6, 2, 3, 0), (1, 0, 0, 0, 4, 5, 6)])

    def test_what_has_not_ended_may_end_late(self):
        calls = [begin(1), read(0, 0), lose(0), read(1, 0), take(0), take(0)]
        self.assertEqual(record_after(*calls)[0], (0, 0, 0, 0, 0, -1, -1))
        self.assertEqual(record_after(*calls, nudge(0), take(0), take(0))[0], (0, 0, 0, 0, 0, 3, 0))

    def test_what_a_client_that_is_gone_had_under_way_never_ends(self):
        calls = [begin(1), write(1, 0, 7), take(0), quit(1), take(0), read(0, 0), take(0), take(0)]
        self.assertEqual(record_after(*calls), [(1, 0, 1, 7, 0, -1, -1), (0, 0, 0, 0, 1, 2, 0)])

    def test_what_had_ended_stays_where_the_client_is_gone(self):
        self.assertEqual(record_after(*written_to((1,), [0], 2, 1, 7), quit(2)), [(2, 1, 1, 7, 0, 1, 0)])

    def test_empty_again_behind_a_new_begin(self):
        calls = written_to((1,), [0], 2, 1, 7) + [read(0, 0), begin(1)]
        self.assertEqual(last(*calls, see_record()), [0])
        self.assertEqual(record_after(*calls, read(3, 2)), [(3, 2, 0, 0, 0, -1, -1)])

    def test_the_same_behind_a_refused_begin(self):
        calls = written_to((1,), [0], 2, 1, 7)
        self.assertEqual(record_after(*calls, begin(0)), [(2, 1, 1, 7, 0, 1, 0)])

    def test_as_many_as_a_line_may_begin(self):
        calls = [begin(1)] + [read(0, 0), take(0), take(0)] * 32
        self.assertEqual(record_after(*calls), [(0, 0, 0, 0, 2 * count, 2 * count + 1, 0) for count in range(32)])
        self.assertEqual(ask(*calls, see_record())[-2], [4, 0])


if __name__ == "__main__":
    unittest.main()
