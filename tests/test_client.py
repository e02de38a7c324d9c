"""Promise 11: client."""

import unittest

from talk import (again, ask, begin, last, lose, nudge, quit, read, round_trips, see_client, take, write, write_on,
                  written_to)

FIVE = (1, 1, 1, 1, 1)


class NothingUnderWay(unittest.TestCase):
    def test_at_first(self):
        for client in range(4):
            self.assertEqual(last(begin(1), see_client(client)), [0, 0])

    def test_no_such_client(self):
        for client in range(4, 10):
            self.assertEqual(last(begin(1), see_client(client)), [-1])

    def test_between_two_operations(self):
        calls = written_to((1,), [0], 2, 0, 7)
        self.assertEqual(last(*calls, see_client(2)), [1, 0])
        self.assertEqual(last(*calls, see_client(1)), [0, 0])
        calls += [read(2, 0), take(0), take(0)]
        self.assertEqual(last(*calls, see_client(2)), [2, 0])

    def test_gone_with_nothing_under_way(self):
        self.assertEqual(last(begin(1), quit(2), see_client(2)), [0, 1])
        self.assertEqual(last(begin(1), quit(2), see_client(1)), [0, 0])
        self.assertEqual(last(*written_to((1,), [0], 2, 0, 7), quit(2), see_client(2)), [1, 1])

    def test_refused_operations_are_not_begun(self):
        self.assertEqual(last(begin(1), read(2, 3), write(2, 0, 100), see_client(2)), [0, 0])


class Asking(unittest.TestCase):
    def test_no_node_heard_of(self):
        self.assertEqual(last(begin(*FIVE), read(2, 1), see_client(2)), [1, 0, 1, 0, 0])
        self.assertEqual(last(begin(*FIVE), write(3, 2, 7), see_client(3)), [1, 0, 2, 1, 0])
        self.assertEqual(last(begin(*FIVE), read(2, 1), see_client(3)), [0, 0])

    def test_nodes_in_the_order_in_which_they_were_heard_of(self):
        for nodes in ([3], [3, 1], [1, 3], [4, 0], [0, 4]):
            asked = round_trips(5, nodes)
            self.assertEqual(last(begin(*FIVE), read(2, 1), *asked, see_client(2)), [1, 0, 1, 0, 0] + nodes)
            self.assertEqual(last(begin(*FIVE), write(2, 1, 7), *asked, see_client(2)), [1, 0, 1, 1, 0] + nodes)

    def test_in_the_order_of_hearing_and_not_of_answering(self):
        # Node 0 answers first and is heard of second.
        calls = [begin(*FIVE), read(0, 0), take(0), take(0), take(4)]
        self.assertEqual(last(*calls, see_client(0)), [1, 0, 0, 0, 0, 1])
        self.assertEqual(last(*calls, take(3), see_client(0)), [1, 0, 0, 0, 0, 1, 0])

    def test_each_node_once(self):
        calls = [begin(*FIVE), read(0, 0), again(3), again(5), again(5), again(3), take(6)]
        self.assertEqual(ask(*calls)[-3:], [[0], [1], [0]])
        self.assertEqual(last(*calls, see_client(0)), [1, 0, 0, 0, 0, 3])

    def test_nodes_of_weight_zero_are_among_them(self):
        calls = [begin(0, 1, 0), read(0, 0)] + round_trips(3, [2, 0])
        self.assertEqual(last(*calls, see_client(0)), [1, 0, 0, 0, 0, 2, 0])

    def test_a_later_operation_begins_with_none(self):
        calls = written_to((1, 1, 1), [2, 0], 1, 0, 7) + [read(1, 2)]
        self.assertEqual(last(*calls, see_client(1)), [2, 0, 2, 0, 0])
        self.assertEqual(last(*calls, *round_trips(3, [1]), see_client(1)), [2, 0, 2, 0, 0, 1])

    def test_a_nudge_changes_nothing_of_it(self):
        calls = [begin(*FIVE), read(2, 1)] + round_trips(5, [3])
        self.assertEqual(last(*calls, nudge(2), see_client(2)), [1, 0, 1, 0, 0, 3])


class HavingSomethingKept(unittest.TestCase):
    def test_a_write_is_kept_by_none_at_first(self):
        calls = [begin(*FIVE), write(2, 1, 7)] + round_trips(5, [4, 0, 2])
        self.assertEqual(last(*calls), [3])
        self.assertEqual(last(*calls, see_client(2)), [1, 0, 1, 1, 1, 1, 2, 7])

    def test_a_write_in_the_order_in_which_nodes_said_so(self):
        calls = [begin(*FIVE), write(2, 1, 7)] + round_trips(5, [4, 0, 2])
        for nodes in ([3], [3, 1], [1, 3], [4, 0], [0, 4]):
            self.assertEqual(last(*calls, *round_trips(5, nodes), see_client(2)), [1, 0, 1, 1, 1, 1, 2, 7] + nodes)
        self.assertEqual(last(*calls, *round_trips(5, [3, 1, 0]), see_client(2)), [1, 0])

    def test_each_keeper_once(self):
        calls = [begin(*FIVE), write(2, 1, 7)] + round_trips(5, [4, 0, 2])
        calls += [again(3), again(5), again(5), again(3), take(6)]
        self.assertEqual(ask(*calls)[-4:], [[2], [0], [1], [0]])
        self.assertEqual(last(*calls, see_client(2)), [1, 0, 1, 1, 1, 1, 2, 7, 3])

    def test_the_copy_has_the_bests_number_and_one(self):
        calls = written_to((1, 1, 1), [0, 1], 3, 0, 5) + write_on(3, [2, 1], 3, 0, 6)
        for nodes in ([2, 0], [0, 2]):
            goes_on = calls + [write(1, 0, 99)] + round_trips(3, nodes)
            self.assertEqual(last(*goes_on, see_client(1)), [1, 0, 0, 1, 1, 3, 1, 99])

    def test_a_write_of_zero(self):
        calls = [begin(1), write(0, 0, 0), take(0), take(0)]
        self.assertEqual(last(*calls, see_client(0)), [1, 0, 0, 1, 1, 1, 0, 0])

    def test_told_behind_that_changes_nothing(self):
        calls = [begin(1, 1, 1), write(0, 0, 7), take(0), take(0), take(0), take(0), take(0)]
        self.assertEqual(last(*calls, see_client(0)), [1, 0, 0, 1, 1, 1, 0, 7])
        self.assertEqual(ask(*calls, take(0), see_client(0))[-2:], [[0], [1, 0, 0, 1, 1, 1, 0, 7]])


class AReadThatHasSomethingKept(unittest.TestCase):
    def kept_by(self, nodes):
        """Client 2's write of 7 into cell 1 goes on and is kept by these nodes only, too few to end it."""
        return [begin(*FIVE), write(2, 1, 7)] + round_trips(5, [0, 1, 2]) + round_trips(5, nodes)

    def test_first_those_that_told_the_best(self):
        calls = self.kept_by([3]) + [read(0, 1)] + round_trips(5, [0, 3, 1])
        self.assertEqual(last(*calls), [3])
        self.assertEqual(last(*calls, see_client(0)), [1, 0, 1, 0, 1, 1, 2, 7, 3])

    def test_in_the_order_in_which_they_were_heard_of(self):
        for nodes, keepers in (([3, 0, 1], [3, 1]), ([1, 0, 3], [1, 3]), ([0, 3, 1], [3, 1]), ([0, 1, 3], [1, 3])):
            calls = self.kept_by([1, 3]) + [read(0, 1)] + round_trips(5, nodes)
            self.assertEqual(last(*calls, see_client(0)), [1, 0, 1, 0, 1, 1, 2, 7] + keepers)

    def test_then_those_that_said_so(self):
        calls = self.kept_by([3]) + [read(0, 1)] + round_trips(5, [0, 3, 1])
        # Keeps lie in the row to nodes 0, 1, 2 and 4.
        for place, node in ((0, 0), (1, 1), (2, 2), (3, 4)):
            told = ask(*calls, take(place), take(3), see_client(0))
            self.assertEqual(told[-3:], [[1], [2], [1, 0, 1, 0, 1, 1, 2, 7, 3, node]])
        told = ask(*calls, take(3), take(3), take(0), take(2), see_client(0))
        self.assertEqual(told[-3:], [[1], [4, 7], [1, 0]])

    def test_a_read_of_its_own_value(self):
        # The client's write never got to node 0; its read hears of node 0 first and goes on with its own copy.
        calls = written_to((1, 1, 1), [1, 2], 3, 0, 9) + [read(3, 0)] + round_trips(3, [0, 1])
        self.assertEqual(last(*calls, see_client(3)), [2, 0, 0, 0, 1, 1, 3, 9, 1])


class Gone(unittest.TestCase):
    def test_it_is_told_as_it_was(self):
        asks = [begin(*FIVE), read(2, 1)] + round_trips(5, [3, 1])
        keeps = [begin(*FIVE), write(2, 1, 7)] + round_trips(5, [4, 0, 2]) + round_trips(5, [3, 1])
        for calls in ([begin(1)], asks, keeps):
            before = last(*calls, see_client(2))
            self.assertEqual(last(*calls, quit(2), see_client(2)), [before[0], 1] + before[2:])

    def test_letters_to_it_change_nothing(self):
        calls = [begin(1, 1, 1), write(0, 0, 7), take(0), take(0), take(1), quit(0)]
        seen = last(*calls, see_client(0))
        self.assertEqual(seen, [1, 1, 0, 1, 0, 0])
        self.assertEqual(ask(*calls, take(1), see_client(0))[-2:], [[0], seen])
        self.assertEqual(last(*calls, lose(0), read(0, 0), nudge(0), see_client(0)), seen)


if __name__ == "__main__":
    unittest.main()
