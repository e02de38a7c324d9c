"""Which of two stamps is greater: the number decides, and of equal numbers the client."""

import unittest

from cellsbymost.parts import best_of, has_greater_stamp, has_same_stamp
from talk import again, ask, begin, letters_after, lose, see_node, take, write

# Node 0 weighs nothing and keeps what it is handed at the end; node 1 is most by itself.
WEIGHTS = (0, 1)


def hears_node_1(client, lying):
    """A write that goes on; behind what lies in the row lie its two keeps, the one to node 0 first."""
    return [write(client, 0, value_of(client)), lose(lying), take(lying), take(lying)]


def value_of(client):
    # The lesser client has the greater value, as values decide nothing.
    return 50 - client


def kept_by_node_1(client, lying):
    """The whole of a write; of its letters only the keep to node 0 still lies in the row."""
    return hears_node_1(client, lying) + [take(lying + 1), take(lying + 1)]


def raised_to(number, now, lying):
    """Node 1's number is raised from now to this by whole writes of client 0."""
    calls = []
    for count in range(number - now):
        calls += kept_by_node_1(0, lying) + [lose(lying)]
    return calls


def keeps_of(lesser, greater):
    """A world with two keeps to node 0 in its row, of these stamps (of which the first number isn't greater)."""
    calls = [begin(*WEIGHTS)] + raised_to(lesser[0] - 1, 0, 0)
    if lesser[0] < greater[0]:
        calls += kept_by_node_1(lesser[1], 0) + raised_to(greater[0] - 1, lesser[0], 1)
        return calls + kept_by_node_1(greater[1], 1)
    # Of equal numbers both must have heard of node 1 ahead of what either has kept.
    return calls + hears_node_1(lesser[1], 0) + [lose(1)] + hears_node_1(greater[1], 1) + [lose(2)]


class Stamps(unittest.TestCase):
    def test_a_node_keeps_the_greater_one_in_either_order(self):
        stamps = [(number, client) for number in (1, 2, 3) for client in range(4)]
        for one in stamps:
            for other in stamps:
                if one < other:
                    self.check_keeps(one, other)

    def check_keeps(self, lesser, greater):
        calls = keeps_of(lesser, greater)
        copies = [stamp + (value_of(stamp[1]),) for stamp in (lesser, greater)]
        self.assertEqual([letter[:2] + letter[5:] for letter in letters_after(*calls)],
                         [(2, 0) + copies[0], (2, 0) + copies[1]])
        for order in ((0, 1), (1, 0)):
            first, second = order
            told = ask(*calls, again(first), see_node(0), again(second), see_node(0))[len(calls):]
            self.assertEqual((told[0], tuple(told[1][1:4])), ([1], copies[first]))
            self.assertEqual((told[2], tuple(told[3][1:4])), ([1], copies[1]))

    def test_the_best_of_copies(self):
        stamps = [(number, client) for number in range(6) for client in range(4)]
        for one in stamps:
            for other in stamps:
                # Values the other way round, as they decide nothing.
                copy, against = one + (99 - 10 * one[0],), other + (99 - 10 * other[0],)
                self.assertEqual(has_greater_stamp(copy, against), one > other)
                self.assertEqual(has_same_stamp(copy, against), one == other)
                self.assertEqual(best_of([copy, against])[:2], max(one, other))


if __name__ == "__main__":
    unittest.main()
