"""Promises 3 and 4: take and again, and what nodes and clients do with a letter."""

import unittest

from talk import again, ask, begin, last, lose, nudge, read, round_trips, row_length, take, write, write_on, written_to


class Outcomes(unittest.TestCase):
    def test_a_read_by_one_node(self):
        self.assertEqual(ask(begin(1), read(0, 0), take(0), take(0)), [[0], [1], [1], [4, 0]])

    def test_a_write_by_one_node(self):
        told = ask(begin(1), write(0, 0, 7), take(0), take(0), take(0), take(0), read(0, 0), take(0), take(0))
        self.assertEqual(told, [[0], [1], [1], [3], [1], [4, 0], [2], [1], [4, 7]])

    def test_a_write_by_three_nodes(self):
        told = ask(begin(1, 1, 1), write(0, 0, 7),
                   take(0), take(2), take(0), take(1),
                   take(1), take(3), take(1), take(2))
        self.assertEqual(told, [[0], [1], [1], [2], [1], [3], [1], [2], [1], [4, 0]])

    def test_a_read_that_has_the_best_kept(self):
        calls = written_to((1, 1, 1), [0, 1], 0, 0, 7)
        told = ask(*calls, read(1, 0), take(2), take(2), take(0), take(1), take(2), take(2))
        self.assertEqual(told[len(calls):], [[1], [1], [2], [1], [3], [1], [4, 7]])

    def test_no_such_letter(self):
        for call in (take, again):
            self.assertEqual(last(begin(1), call(0)), [-1])
            for letter in (3, 4, 99, 100, 200):
                calls = [begin(1, 1, 1), read(0, 0), call(letter)]
                self.assertEqual(last(*calls), [-1])
                self.assertEqual(row_length(*calls), 3)
            self.assertEqual(last(begin(1, 1, 1), read(0, 0), call(2)), [1])

    def test_take_takes_out_and_again_leaves(self):
        calls = [begin(1, 1), read(0, 0)]
        self.assertEqual(row_length(*calls, take(0)), 2)
        self.assertEqual(row_length(*calls, again(0)), 3)
        self.assertEqual(row_length(*calls, take(0), take(1)), 1)
        self.assertEqual(row_length(*calls, take(0), again(1)), 2)

    def test_again_has_the_same_outcomes_and_the_letter_comes_twice(self):
        told = ask(begin(1), write(0, 0, 7), again(0), again(0), again(1), again(2), again(3), again(4), again(4))
        self.assertEqual(told, [[0], [1], [1], [1], [3], [0], [1], [4, 0], [0]])

    def test_again_hands_over_the_letter_named(self):
        # Of the weights 1, 1 and 3 only the last node is most by itself.
        told = ask(begin(1, 1, 3), read(0, 0), again(2), again(3), again(3))
        self.assertEqual(told, [[0], [1], [1], [4, 0], [0]])

    def test_any_order(self):
        told = ask(begin(1, 1, 1), read(0, 0), take(2), take(1), take(2), take(0), take(1), take(0))
        self.assertEqual(told, [[0], [1], [1], [1], [2], [1], [4, 0], [0]])


class Nodes(unittest.TestCase):
    def test_an_older_copy_is_not_kept_but_answered(self):
        told = ask(begin(1), write(0, 0, 5), take(0), take(0), again(0), take(1),
                   write(1, 0, 6), take(1), take(1), take(1), take(1),
                   take(0), take(0), read(2, 0), take(0), take(0))
        self.assertEqual(told[:6], [[0], [1], [1], [3], [1], [4, 0]])
        self.assertEqual(told[6:11], [[1], [1], [3], [1], [4, 0]])
        self.assertEqual(told[11:], [[1], [0], [1], [1], [4, 6]])

    def test_saying_kept_counts_where_the_copy_was_older(self):
        # Both ask, then the greater stamp is kept first; the lesser one ends all the same.
        calls = [begin(1), write(2, 0, 5), write(1, 0, 6), take(0), take(0), take(0), take(0)]
        told = ask(*calls, take(0), take(0), take(0), take(0), read(0, 0), take(0), take(0))
        self.assertEqual(told[5:7], [[3], [3]])
        self.assertEqual(told[7:], [[1], [1], [4, 0], [4, 0], [1], [1], [4, 5]])

    def test_of_equal_numbers_the_client_decides(self):
        # The other way round: the lesser stamp is kept first, and then replaced.
        calls = [begin(1), write(2, 0, 5), write(1, 0, 6), take(0), take(0), take(0), take(0)]
        told = ask(*calls, take(1), take(0), take(0), take(0), read(0, 0), take(0), take(0))
        self.assertEqual(told[7:], [[1], [1], [4, 0], [4, 0], [1], [1], [4, 5]])

    def test_a_greater_number_beats_a_greater_client(self):
        calls = written_to((1,), [0], 3, 0, 5) + write_on(1, [0], 0, 0, 6)
        self.assertEqual(last(*calls, read(1, 0), take(0), take(0)), [4, 6])

    def test_a_node_answers_for_operations_that_are_past(self):
        told = ask(begin(1), read(0, 0), again(0), take(1), take(0), take(0))
        self.assertEqual(told, [[0], [1], [1], [4, 0], [1], [0]])

    def test_a_node_tells_what_it_holds_when_asked(self):
        # The node tells client 1 its copy, then keeps client 0's, and only then client 1 hears.
        told = ask(begin(1), write(0, 0, 7), read(1, 0), take(0), take(1), take(0), take(0), take(0))
        self.assertEqual(told[3:], [[1], [3], [1], [1], [4, 0]])


class OfNoUse(unittest.TestCase):
    def test_no_operation_under_way(self):
        self.assertEqual(ask(begin(1), read(0, 0), again(0), again(1), take(1))[-2:], [[4, 0], [0]])

    def test_told_of_an_earlier_operation(self):
        told = ask(begin(1), read(0, 0), again(0), take(1), read(0, 0), take(0), take(1), take(0), take(0))
        self.assertEqual(told, [[0], [1], [1], [4, 0], [2], [1], [0], [1], [4, 0]])

    def test_kept_of_an_earlier_operation(self):
        told = ask(begin(1), write(0, 0, 5), take(0), take(0), again(0), again(0), take(1),
                   write(0, 0, 6), take(2), take(2), take(1), take(1), take(1))
        self.assertEqual(told[:7], [[0], [1], [1], [3], [1], [1], [4, 0]])
        self.assertEqual(told[7:], [[2], [1], [3], [0], [1], [4, 0]])

    def test_told_where_something_is_kept_already(self):
        calls = [begin(1, 1, 1), write(0, 0, 7), take(0), take(0), take(0), take(0), take(0)]
        self.assertEqual(ask(*calls, take(0))[-3:], [[2], [3], [0]])

    def test_told_where_a_read_has_something_kept_already(self):
        calls = written_to((1, 1, 1), [0, 1], 0, 0, 7)
        told = ask(*calls, read(1, 0), take(0), take(1), take(0), take(0), take(0), take(0))
        self.assertEqual(told[len(calls):], [[1], [1], [1], [1], [2], [3], [0]])

    def test_told_twice_by_one_node(self):
        told = ask(begin(1, 1, 1), read(0, 0), again(0), again(3), again(3), take(0), take(3))
        self.assertEqual(told, [[0], [1], [1], [2], [0], [1], [0]])

    def test_kept_twice_by_one_node(self):
        calls = [begin(1, 1, 1), write(0, 0, 7)] + round_trips(3, [0, 1])
        told = ask(*calls, again(0), again(3), again(3), take(0), take(3))
        self.assertEqual(told[len(calls):], [[1], [2], [0], [1], [0]])

    def test_only_the_client_it_is_for_hears(self):
        told = ask(begin(1), read(0, 0), read(1, 0), take(0), take(1), take(0), take(0))
        self.assertEqual(told[3:], [[1], [4, 0], [1], [4, 0]])


class GoingOn(unittest.TestCase):
    def test_a_write_takes_the_bests_number_in_whatever_order_it_hears(self):
        # Nodes 0 and 1 hold a copy of client 3: only a greater number replaces it.
        for nodes in ([2, 0], [0, 2]):
            calls = written_to((1, 1, 1), [0, 1], 3, 0, 5) + write_on(3, nodes, 0, 0, 6)
            self.assertEqual(last(*calls), [4, 0])
            self.assertEqual(last(*calls, read(1, 0), *round_trips(3, [0, 2])), [4, 6])

    def test_a_write_is_kept_by_none_at_first(self):
        calls = [begin(1, 1, 1), write(0, 0, 7)] + round_trips(3, [0, 1])
        self.assertEqual(row_length(*calls), 3)
        self.assertEqual(last(*calls, nudge(0)), [3])
        self.assertEqual(ask(*calls, take(0), take(2), take(0), take(1))[-4:], [[1], [2], [1], [4, 0]])

    def test_a_write_sends_keep_to_each_node_in_order(self):
        # Of the weights 1, 2 and 4 only the last node is most by itself.
        calls = [begin(1, 2, 4), write(0, 0, 7)] + round_trips(3, [2])
        self.assertEqual(last(*calls), [3])
        self.assertEqual(last(*calls, take(0), take(2)), [2])
        self.assertEqual(last(*calls, take(1), take(2)), [2])
        self.assertEqual(last(*calls, take(2), take(2)), [4, 0])

    def test_a_write_keeps_its_value_and_not_the_bests(self):
        calls = written_to((1,), [0], 0, 0, 5) + write_on(1, [0], 0, 0, 0)
        self.assertEqual(last(*calls, read(1, 0), take(0), take(0)), [4, 0])

    def test_a_read_ends_at_once_where_most_told_the_best(self):
        calls = written_to((1, 1, 1), [0, 1], 0, 0, 7)
        self.assertEqual(last(*calls, read(1, 0), *round_trips(3, [0, 1])), [4, 7])
        self.assertEqual(row_length(*calls, read(1, 0), *round_trips(3, [0, 1])), 0)

    def test_a_read_ends_at_once_by_weight_and_not_by_count(self):
        calls = written_to((3, 1, 1), [0], 0, 0, 7)
        told = ask(*calls, read(1, 0), *round_trips(3, [1, 2, 0]))
        self.assertEqual(told[len(calls):], [[1], [1], [2], [1], [2], [1], [4, 7]])

    def test_a_read_sends_keep_to_those_not_known_to_keep(self):
        calls = written_to((1, 1, 1), [0, 1], 0, 0, 7)
        for nodes in ([0, 2], [2, 0]):
            goes_on = calls + [read(1, 0)] + round_trips(3, nodes)
            self.assertEqual(last(*goes_on), [3])
            self.assertEqual(row_length(*goes_on), 2)

    def test_a_read_counts_those_known_to_keep(self):
        # Node 0 (weight 2 of 6) told the best. With node 1 (1) it isn't most yet, with node 3 (2) it is.
        calls = written_to((2, 1, 1, 2), [1, 2, 0], 0, 0, 7)
        self.assertEqual(last(*calls), [4, 0])
        calls += [read(1, 0)] + round_trips(4, [3, 0])
        self.assertEqual(last(*calls), [3])
        self.assertEqual(row_length(*calls), 3)
        self.assertEqual(ask(*calls, take(0), take(2))[-2:], [[1], [2]])
        self.assertEqual(ask(*calls, take(2), take(2))[-2:], [[1], [4, 7]])

    def test_what_a_read_has_kept_stays_kept(self):
        # Node 0 alone got the value; after the read node 2 holds it as well.
        calls = [begin(1, 1, 1), write(0, 0, 7)] + round_trips(3, [0, 1]) + [take(0), lose(0), lose(0), lose(0)]
        self.assertEqual(row_length(*calls), 0)
        calls += [read(1, 0)] + round_trips(3, [2, 0]) + [lose(0), take(0), take(0)]
        self.assertEqual(last(*calls), [4, 7])
        self.assertEqual(last(*calls, read(2, 0), *round_trips(3, [1, 2])), [3])
        self.assertEqual(last(*calls, read(2, 0), *round_trips(3, [0, 2])), [4, 7])

    def test_the_best_of_equal_numbers_is_the_greater_clients(self):
        calls = [begin(1, 1, 1),
                 write(2, 0, 5), lose(2), take(0), take(0),
                 write(1, 0, 6), lose(4), take(2), take(2),
                 take(0), take(0), take(0), take(0),
                 take(0), lose(0), lose(0), lose(0), take(0), lose(0), lose(0), lose(0)]
        self.assertEqual(row_length(*calls), 0)
        for nodes in ([0, 1], [1, 0]):
            told = ask(*calls, read(0, 0), *round_trips(3, nodes), take(0), take(1))
            self.assertEqual(told[-3:], [[3], [1], [4, 5]])


class Most(unittest.TestCase):
    def outcomes(self, weights, nodes):
        """What a read makes of these nodes' letters, where all hold the same."""
        told = ask(begin(*weights), read(0, 0), *round_trips(len(weights), nodes))
        return told[2 + len(weights) - len(nodes) + 1::2]

    def test_just_half_is_not_most(self):
        self.assertEqual(self.outcomes((1, 1), [0, 1]), [[2], [4, 0]])
        self.assertEqual(self.outcomes((2, 1, 1), [0, 2]), [[2], [4, 0]])
        self.assertEqual(self.outcomes((9, 9), [1, 0]), [[2], [4, 0]])
        self.assertEqual(self.outcomes((1, 1, 1, 1), [3, 1, 0]), [[2], [2], [4, 0]])

    def test_more_than_half_is_most(self):
        self.assertEqual(self.outcomes((3, 1, 1), [0]), [[4, 0]])
        self.assertEqual(self.outcomes((1, 2), [1]), [[4, 0]])
        self.assertEqual(self.outcomes((1, 2), [0, 1]), [[2], [4, 0]])
        self.assertEqual(self.outcomes((1, 1, 1, 1, 1), [4, 2, 0]), [[2], [2], [4, 0]])

    def test_weight_zero_adds_nothing(self):
        self.assertEqual(self.outcomes((0, 1), [0, 1]), [[2], [4, 0]])
        self.assertEqual(self.outcomes((0, 1), [1]), [[4, 0]])
        self.assertEqual(self.outcomes((1, 1, 0), [2, 0, 1]), [[2], [2], [4, 0]])
        self.assertEqual(self.outcomes((0, 0, 0, 0, 1), [0, 1, 2, 3, 4]), [[2], [2], [2], [2], [4, 0]])

    def test_just_half_does_not_end_a_write(self):
        calls = [begin(2, 1, 1), write(0, 0, 7)] + round_trips(3, [0, 1])
        self.assertEqual(ask(*calls, *round_trips(3, [0, 2]))[-5:], [[0], [1], [2], [1], [4, 0]])

    def test_weight_zero_does_not_end_a_write(self):
        calls = [begin(0, 1, 0), write(0, 0, 7)] + round_trips(3, [1])
        told = ask(*calls, *round_trips(3, [0, 2, 1]))
        self.assertEqual(told[len(calls):], [[1], [2], [1], [2], [1], [4, 0]])

    def test_just_half_of_those_that_told_the_best_does_not_end_a_read(self):
        calls = written_to((2, 1, 1), [2, 0], 0, 0, 7)
        self.assertEqual(last(*calls, read(1, 0), *round_trips(3, [1, 0])), [3])
        self.assertEqual(last(*calls, read(1, 0), *round_trips(3, [2, 0])), [4, 7])

    def test_a_node_of_weight_zero_may_tell_the_best(self):
        # Only the node of weight 0 keeps the value, and the read has it kept by another.
        calls = [begin(0, 1), write(0, 0, 7)] + round_trips(2, [1]) + [take(0), lose(0), lose(0)]
        told = ask(*calls, read(1, 0), *round_trips(2, [0, 1]), take(0), take(0))
        self.assertEqual(told[len(calls):], [[1], [1], [2], [1], [3], [1], [4, 7]])


if __name__ == "__main__":
    unittest.main()
