"""Promise 8: stop and start."""

import unittest

from talk import (again, ask, begin, last, letters_after, lose, nudge, read, round_trips, see_node, seen_after, start,
                  stop, take, write, written_to)


class StopAndStart(unittest.TestCase):
    def test_each_node_by_itself(self):
        for count in range(1, 6):
            for node in range(count):
                calls = [begin(*[1] * count), stop(node)]
                self.assertEqual(last(*calls), [0])
                runs = [last(*calls, see_node(other))[0] for other in range(count)]
                self.assertEqual(runs, [0 if other == node else 1 for other in range(count)])
                self.assertEqual(ask(*calls, start(node), see_node(node))[-2:], [[0], [1] + [0] * 9])

    def test_no_such_node(self):
        for count in range(1, 6):
            for node in range(count, 10):
                for call in (stop, start):
                    calls = [begin(*[1] * count)]
                    self.assertEqual(last(*calls, call(node)), [-1])
                    self.assertEqual(seen_after(*calls, call(node)), seen_after(*calls))

    def test_it_has_stopped_already(self):
        calls = [begin(1, 1), stop(1)]
        self.assertEqual(ask(*calls, stop(1), stop(1), stop(0), stop(0))[1:], [[0], [-2], [-2], [0], [-2]])
        self.assertEqual(seen_after(*calls, stop(1)), seen_after(*calls))

    def test_it_runs_already(self):
        calls = [begin(1, 1)]
        self.assertEqual(ask(*calls, start(0), start(1), stop(1), start(0), start(1), start(1))[1:],
                         [[-2], [-2], [0], [-2], [0], [-2]])
        self.assertEqual(seen_after(*calls, start(0)), seen_after(*calls))

    def test_over_and_over(self):
        calls = [begin(1)] + [stop(0), start(0)] * 20
        self.assertEqual(ask(*calls), [[0]] * 41)
        self.assertEqual(ask(*calls, read(0, 0), take(0), take(0))[-2:], [[1], [4, 0]])

    def test_only_that_it_runs_is_changed(self):
        calls = written_to((1, 1, 1), [0, 1], 2, 1, 7) + [read(0, 1), take(1), take(2)]
        before = seen_after(*calls)
        after = seen_after(*calls, stop(1))
        # The letters and the record are told ahead of node 0.
        self.assertEqual(after[2 + 1], [0] + before[2 + 1][1:])
        after[2 + 1] = before[2 + 1]
        self.assertEqual(after, before)
        self.assertEqual(seen_after(*calls, stop(1), start(1)), before)


class Stopped(unittest.TestCase):
    def test_it_does_not_tell(self):
        calls = [begin(1), read(0, 0), stop(0)]
        self.assertEqual(last(*calls, again(0)), [0])
        self.assertEqual(seen_after(*calls, again(0)), seen_after(*calls))
        self.assertEqual(last(*calls, take(0)), [0])
        self.assertEqual(letters_after(*calls, take(0)), [])

    def test_it_does_not_keep(self):
        calls = [begin(1), write(0, 0, 7), take(0), take(0), stop(0)]
        self.assertEqual(last(*calls, again(0)), [0])
        self.assertEqual(seen_after(*calls, again(0)), seen_after(*calls))
        self.assertEqual(last(*calls, take(0)), [0])
        self.assertEqual(letters_after(*calls, take(0)), [])
        self.assertEqual(last(*calls, take(0), see_node(0)), [0] * 10)

    def test_the_letter_that_lay_on_counts_once_it_runs(self):
        calls = [begin(1), write(0, 0, 7), take(0), take(0), stop(0), again(0), start(0), take(0)]
        self.assertEqual(last(*calls), [1])
        self.assertEqual(last(*calls, see_node(0)), [1, 1, 0, 7] + [0] * 6)
        self.assertEqual(last(*calls, take(0)), [4, 0])

    def test_the_letter_that_was_taken_is_gone_once_it_runs(self):
        calls = [begin(1), read(0, 0), stop(0), take(0), start(0)]
        self.assertEqual(last(*calls, take(0)), [-1])
        self.assertEqual(ask(*calls, nudge(0), take(0), take(0))[-3:], [[1], [1], [4, 0]])

    def test_it_holds_what_it_held(self):
        calls = written_to((1,), [0], 3, 1, 7) + [stop(0)]
        self.assertEqual(last(*calls, see_node(0)), [0, 0, 0, 0, 1, 3, 7, 0, 0, 0])
        calls += [start(0)]
        self.assertEqual(last(*calls, see_node(0)), [1, 0, 0, 0, 1, 3, 7, 0, 0, 0])
        self.assertEqual(last(*calls, read(0, 1), take(0), take(0)), [4, 7])

    def test_it_is_still_sent_letters(self):
        calls = [begin(1, 1, 1), stop(1), write(0, 0, 7)]
        self.assertEqual([letter[:2] for letter in letters_after(*calls)], [(0, 0), (0, 1), (0, 2)])
        self.assertEqual(last(*calls, nudge(0)), [3])
        calls += round_trips(3, [0, 2])
        self.assertEqual([letter[:2] for letter in letters_after(*calls)], [(2, 0), (2, 1), (2, 2)])
        self.assertEqual(last(*calls, nudge(0)), [3])

    def test_what_it_sent_before_still_counts(self):
        told = ask(begin(1), read(0, 0), take(0), stop(0), take(0))
        self.assertEqual(told, [[0], [1], [1], [0], [4, 0]])

    def test_the_others_are_most_without_it(self):
        calls = written_to((1, 1, 1), [0, 1], 0, 0, 7) + [stop(0), read(1, 0), take(0)]
        self.assertEqual(last(*calls), [0])
        self.assertEqual(ask(*calls, take(1), take(1), take(0), take(0))[-4:], [[1], [2], [1], [3]])

    def test_its_weight_still_counts(self):
        # Two of four that run are not most.
        calls = [begin(1, 1, 1, 1), stop(2), stop(3), read(0, 0)]
        told = ask(*calls, take(0), take(3), take(0), take(2), take(0), take(0))
        self.assertEqual(told[len(calls):], [[1], [2], [1], [2], [0], [0]])

    def test_all_may_stop(self):
        calls = [begin(1, 1), stop(0), stop(1), read(0, 0)]
        self.assertEqual(ask(*calls, take(0), take(0), nudge(0), lose(0))[-5:], [[1], [0], [0], [2], [0]])


if __name__ == "__main__":
    unittest.main()
