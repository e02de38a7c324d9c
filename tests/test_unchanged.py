"""What changes nothing: letters, node, client and record, and each refusal."""

import unittest

from runs import drawn_line
from talk import (again, ask, begin, lose, nudge, quit, read, round_trips, see_client, see_letters, see_node,
                  see_record, seen_after, start, stop, take, write, written_to)

SIGHT = [see_letters(), see_record(), see_node(0), see_node(4), see_node(9), see_client(0), see_client(3),
         see_client(9)]

# Worlds of three nodes: nothing has happened yet; a read asks; a write and a read have something kept; one is past.
FRESH = [begin(1, 1, 1)]
ASKS = FRESH + [read(0, 0), take(0), take(2)]
KEEPS = FRESH + [write(0, 0, 7)] + round_trips(3, [0, 1]) + [take(0), take(2)]
READ_KEEPS = FRESH + [write(2, 0, 7)] + round_trips(3, [0, 1]) + round_trips(3, [1]) + [read(0, 0)]
READ_KEEPS += round_trips(3, [0, 1])
PAST = written_to((1, 1, 1), [0, 1], 0, 0, 7)

REFUSED_ANYWHERE = [(begin(), -1), (begin(1, 1, 1, 1, 1, 1), -1), (begin(10), -1), (begin(0, 0), -1),
                    (read(4, 0), -1), (read(0, 3), -1), (write(4, 0, 1), -1), (write(0, 3, 1), -1),
                    (write(0, 0, 100), -1), (take(50), -1), (again(50), -1), (lose(50), -1), (nudge(4), -1),
                    (nudge(1), -2), (quit(4), -1), (stop(3), -1), (start(3), -1), (start(0), -2), (see_node(3), -1),
                    (see_client(4), -1)]
REFUSED_AT_WORK = [(read(0, 1), -2), (write(0, 1, 5), -2)]
REFUSED_GONE = [(read(0, 0), -2), (write(0, 0, 5), -2), (nudge(0), -2), (quit(0), -2), (stop(2), -2)]


class Seeing(unittest.TestCase):
    def check_same(self, calls):
        """The same calls answer the same with and without calls in between that only tell."""
        with_sight = [call for each in calls for call in [each] + SIGHT]
        self.assertEqual(ask(*with_sight)[::1 + len(SIGHT)], ask(*calls))
        self.assertEqual(seen_after(*with_sight), seen_after(*calls))

    def test_in_between(self):
        for calls in (FRESH, ASKS, KEEPS, READ_KEEPS, PAST):
            self.check_same(calls)
            self.check_same(calls + [quit(0), stop(1), take(0), nudge(2)])

    def test_in_between_in_lines_drawn_by_lot(self):
        for number in range(30):
            self.check_same(drawn_line(number, 60))

    def test_twice_tells_the_same(self):
        for calls in (FRESH, ASKS, KEEPS, READ_KEEPS, PAST):
            for call in SIGHT:
                told = ask(*calls, call, call, call)
                self.assertEqual(told[-3], told[-1])
                self.assertEqual(told[-2], told[-1])


class Refusals(unittest.TestCase):
    def check_refused(self, calls, refused):
        before = seen_after(*calls)
        for call, number in refused:
            self.assertEqual(ask(*calls, call)[-1], [number], call)
            self.assertEqual(seen_after(*calls, call), before, call)
        together = [call for call, number in refused]
        self.assertEqual(seen_after(*calls, *together), before)

    def test_in_any_world(self):
        for calls in (FRESH, ASKS, KEEPS, READ_KEEPS, PAST):
            self.check_refused(calls, REFUSED_ANYWHERE)

    def test_with_one_under_way(self):
        for calls in (ASKS, KEEPS, READ_KEEPS):
            self.check_refused(calls, REFUSED_AT_WORK)

    def test_with_none_under_way(self):
        for calls in (FRESH, PAST):
            self.check_refused(calls, [(nudge(0), -2)])

    def test_gone_and_stopped(self):
        for calls in (FRESH, ASKS, KEEPS, READ_KEEPS, PAST):
            self.check_refused(calls + [quit(0), stop(2)], REFUSED_GONE)

    def test_in_lines_drawn_by_lot(self):
        for number in range(40):
            calls = drawn_line(number, 40)
            told = ask(*calls)
            for count, answer in enumerate(told):
                if answer[0] < 0:
                    self.assertEqual(len(answer), 1)
                    self.assertEqual(seen_after(*calls[:count + 1]), seen_after(*calls[:count]))


if __name__ == "__main__":
    unittest.main()
