"""Promise 7: quit."""

import unittest

from talk import (again, ask, begin, last, letters_after, nudge, quit, read, record_after, round_trips, see_client,
                  see_node, seen_after, take, write, written_to)


class Quit(unittest.TestCase):
    def test_each_client_once(self):
        calls = [begin(1)] + [quit(client) for client in range(4)] * 2
        self.assertEqual(ask(*calls), [[0]] + [[0]] * 4 + [[-2]] * 4)

    def test_no_such_client(self):
        for client in range(4, 10):
            self.assertEqual(ask(begin(1), quit(client), quit(client)), [[0], [-1], [-1]])

    def test_gone_for_good(self):
        self.assertEqual(ask(begin(1), quit(2), read(2, 0), quit(2), quit(2))[1:], [[0], [-2], [-2], [-2]])

    def test_with_nothing_under_way(self):
        calls = written_to((1,), [0], 2, 0, 7)
        self.assertEqual(ask(*calls, quit(2), quit(2))[-2:], [[0], [-2]])

    def test_with_something_under_way(self):
        for calls in ([read(2, 0)], [write(2, 0, 7)], [write(2, 0, 7), take(0), take(0)]):
            self.assertEqual(ask(begin(1), *calls, quit(2), quit(2))[-2:], [[0], [-2]])

    def test_only_gone_is_changed(self):
        for calls in ([], [read(2, 0)], [write(2, 0, 7), take(0)], [write(2, 0, 7), take(0), take(0), again(0)]):
            before = seen_after(begin(1), *calls)
            after = seen_after(begin(1), *calls, quit(2))
            # The letters, the record and five nodes are told ahead of client 0.
            before[7 + 2][1] = 1
            self.assertEqual(after, before)

    def test_it_begins_nothing(self):
        calls = [begin(1), quit(2)]
        self.assertEqual(last(*calls, read(2, 0)), [-2])
        self.assertEqual(last(*calls, write(2, 0, 7)), [-2])
        self.assertEqual(seen_after(*calls, read(2, 0), write(2, 0, 7)), seen_after(*calls))

    def test_minus_1_ahead_of_minus_2(self):
        calls = [begin(1), quit(2)]
        for call in (read(2, 3), write(2, 3, 7), write(2, 0, 100)):
            self.assertEqual(last(*calls, call), [-1])

    def test_it_is_not_nudged(self):
        for calls in ([], [read(2, 0)], [write(2, 0, 7), take(0), take(0)]):
            self.assertEqual(last(begin(1), *calls, quit(2), nudge(2)), [-2])
            self.assertEqual(letters_after(begin(1), *calls, quit(2), nudge(2)), letters_after(begin(1), *calls))

    def test_the_others_are_still_there(self):
        for client in (0, 1, 3):
            told = ask(begin(1), quit(2), read(client, 0), nudge(client), take(0), take(1), quit(client))
            self.assertEqual(told[1:], [[0], [1], [1], [1], [4, 0], [0]])


class LettersToOneThatIsGone(unittest.TestCase):
    def check_never_ends(self, calls, place, awaited):
        """Client 0's letter at this place makes it go on or end; where the client is gone it's of no use."""
        self.assertEqual(last(*calls, take(place)), awaited)
        for hand_over in (take, again):
            told = ask(*calls, quit(0), hand_over(place), see_client(0))
            self.assertEqual(told[-2], [0])
            self.assertEqual(told[-1], [1, 1] + last(*calls, see_client(0))[2:])
            self.assertEqual(record_after(*calls, quit(0), hand_over(place))[0][5:], (-1, -1))

    def test_that_tell(self):
        self.check_never_ends([begin(1), read(0, 0), take(0)], 0, [4, 0])
        self.check_never_ends([begin(1), write(0, 0, 7), take(0)], 0, [3])
        self.check_never_ends([begin(1, 1), read(0, 0), take(1)], 1, [2])

    def test_that_say_kept(self):
        self.check_never_ends([begin(1), write(0, 0, 7), take(0), take(0), take(0)], 0, [4, 0])
        calls = [begin(1, 1), write(0, 0, 7)] + round_trips(2, [1, 0]) + [take(1)]
        self.check_never_ends(calls, 1, [2])

    def test_of_a_read_that_has_something_kept(self):
        calls = [begin(1, 1, 1), write(2, 0, 7)] + round_trips(3, [0, 1]) + round_trips(3, [1])
        calls += [read(0, 0)] + round_trips(3, [0, 1]) + [take(1)]
        self.assertEqual(last(*calls, take(1)), [4, 7])
        told = ask(*calls, quit(0), take(1), see_client(0))
        self.assertEqual(told[-2:], [[0], [1, 1, 0, 0, 1, 1, 2, 7, 1]])
        self.assertEqual(record_after(*calls, quit(0), take(1))[1], (0, 0, 0, 0, 1, -1, -1))

    def test_with_nothing_under_way(self):
        calls = [begin(1), read(0, 0), again(0), again(1), quit(0)]
        self.assertEqual(ask(*calls, take(1))[-3:], [[4, 0], [0], [0]])

    def test_they_are_taken_out_or_lie_on(self):
        calls = [begin(1), read(0, 0), take(0), quit(0)]
        self.assertEqual(letters_after(*calls, take(0)), [])
        self.assertEqual(letters_after(*calls, again(0)), letters_after(*calls))


class LettersFromOneThatIsGone(unittest.TestCase):
    def test_nodes_still_tell(self):
        calls = [begin(1), read(0, 0), quit(0), take(0)]
        self.assertEqual(last(*calls), [1])
        self.assertEqual(letters_after(*calls), [(1, 0, 0, 1, 0, 0, 0, 0)])

    def test_nodes_still_keep(self):
        calls = [begin(1), write(3, 1, 7), take(0), take(0), quit(3), take(0)]
        self.assertEqual(last(*calls), [1])
        self.assertEqual(letters_after(*calls), [(3, 3, 0, 1, 1, 0, 0, 0)])
        self.assertEqual(last(*calls, see_node(0)), [1, 0, 0, 0, 1, 3, 7, 0, 0, 0])
        # So others may read what it wrote though its write never ends.
        self.assertEqual(ask(*calls, take(0), read(0, 1), take(0), take(0))[-4:], [[0], [1], [1], [4, 7]])

    def test_others_have_it_kept_for_it(self):
        # The client vanishes when one of three nodes keeps its value; a read that hears of it has it kept.
        calls = [begin(1, 1, 1), write(3, 1, 7)] + round_trips(3, [0, 1]) + round_trips(3, [2])
        calls += [quit(3), read(0, 1)] + round_trips(3, [0, 2])
        self.assertEqual(last(*calls), [3])
        self.assertEqual(last(*calls, take(0), take(1)), [4, 7])


if __name__ == "__main__":
    unittest.main()
