"""What the calls of points 1 to 6 lean on and can't be seen through them alone: letters, stops, the gone, the record."""

import unittest

from cellsbymost.world import World, best_of, has_greater_stamp, has_same_stamp


def letters(world):
    return [(letter.kind, letter.to, letter.sender, letter.operation, letter.cell) + letter.enclosed
            for letter in world.row]


class Stamps(unittest.TestCase):
    def test_the_number_decides_and_then_the_client(self):
        stamps = [(number, client) for number in range(6) for client in range(4)]
        for one in stamps:
            for other in stamps:
                # Values the other way round, as they decide nothing.
                copy, against = one + (99 - 10 * one[0],), other + (99 - 10 * other[0],)
                self.assertEqual(has_greater_stamp(copy, against), one > other)
                self.assertEqual(has_same_stamp(copy, against), one == other)
                self.assertEqual(best_of([copy, against])[:2], max(one, other))


class Letters(unittest.TestCase):
    def test_of_a_write(self):
        world = World([1, 1])
        world.write(3, 2, 7)
        self.assertEqual(letters(world), [(0, 0, 3, 1, 2, 0, 0, 0), (0, 1, 3, 1, 2, 0, 0, 0)])
        world.take(0)
        self.assertEqual(letters(world), [(0, 1, 3, 1, 2, 0, 0, 0), (1, 3, 0, 1, 2, 0, 0, 0)])
        world.take(1)
        world.take(0)
        world.take(0)
        self.assertEqual(letters(world), [(2, 0, 3, 1, 2, 1, 3, 7), (2, 1, 3, 1, 2, 1, 3, 7)])
        world.take(1)
        self.assertEqual(letters(world), [(2, 0, 3, 1, 2, 1, 3, 7), (3, 3, 1, 1, 2, 0, 0, 0)])
        self.assertEqual(world.nodes[0].copies, [(0, 0, 0), (0, 0, 0), (0, 0, 0)])
        self.assertEqual(world.nodes[1].copies, [(0, 0, 0), (0, 0, 0), (1, 3, 7)])

    def test_of_a_read_that_has_the_best_kept(self):
        world = World([1, 1, 1])
        world.nodes[1].copies[0] = (4, 2, 7)
        world.read(0, 0)
        for place in (0, 0, 1):
            world.take(place)
        self.assertEqual(letters(world), [(0, 2, 0, 1, 0, 0, 0, 0), (1, 0, 1, 1, 0, 4, 2, 7)])
        self.assertEqual(world.take(1), [3])
        self.assertEqual(letters(world)[1:], [(2, 0, 0, 1, 0, 4, 2, 7), (2, 2, 0, 1, 0, 4, 2, 7)])

    def test_of_a_nudge(self):
        world = World([1, 1, 1])
        world.read(2, 1)
        world.take(1)
        world.take(2)
        world.nudge(2)
        self.assertEqual(letters(world)[2:], [(0, 0, 2, 1, 1, 0, 0, 0), (0, 2, 2, 1, 1, 0, 0, 0)])


class Stopped(unittest.TestCase):
    def test_a_stopped_node_does_nothing(self):
        world = World([1])
        world.write(0, 0, 7)
        world.nodes[0].runs = False
        self.assertEqual(world.again(0), [0])
        self.assertEqual(len(world.row), 1)
        self.assertEqual(world.take(0), [0])
        self.assertEqual(world.row, [])

    def test_a_stopped_node_does_not_keep(self):
        world = World([1])
        world.write(0, 0, 7)
        world.take(0)
        world.take(0)
        world.nodes[0].runs = False
        self.assertEqual(world.again(0), [0])
        self.assertEqual(world.nodes[0].copies[0], (0, 0, 0))
        world.nodes[0].runs = True
        self.assertEqual(world.take(0), [1])
        self.assertEqual(world.nodes[0].copies[0], (1, 0, 7))


class Gone(unittest.TestCase):
    def test_a_client_that_is_gone_is_refused(self):
        world = World([1])
        world.clients[1].gone = True
        self.assertEqual(world.read(1, 0), [-2])
        self.assertEqual(world.write(1, 0, 5), [-2])
        self.assertEqual(world.nudge(1), [-2])
        self.assertEqual(world.write(1, 0, 100), [-1])
        self.assertEqual((world.row, world.record), ([], []))

    def test_what_a_client_that_is_gone_has_under_way_never_ends(self):
        world = World([1])
        world.read(1, 0)
        world.take(0)
        world.clients[1].gone = True
        self.assertEqual(world.nudge(1), [-2])
        self.assertEqual(world.take(0), [0])
        self.assertEqual(world.record[0].ended, -1)


class Record(unittest.TestCase):
    def rows(self, world):
        return [(it.client, it.cell, it.writes, it.value, it.began, it.ended, it.result) for it in world.record]

    def test_operations_in_the_order_in_which_they_began(self):
        world = World([1])
        world.write(2, 1, 7)
        world.read(0, 2)
        world.read(4, 0)
        world.read(0, 0)
        self.assertEqual(self.rows(world), [(2, 1, True, 7, 0, -1, -1), (0, 2, False, 0, 1, -1, -1)])

    def test_beginnings_and_ends_are_counted_together(self):
        world = World([1])
        world.write(2, 1, 7)
        world.read(0, 1)
        for place in (0, 1, 1, 1):
            world.take(place)
        self.assertEqual(self.rows(world), [(2, 1, True, 7, 0, 2, 0), (0, 1, False, 0, 1, -1, -1)])
        world.take(0)
        world.take(0)
        world.read(2, 0)
        self.assertEqual(self.rows(world)[1:], [(0, 1, False, 0, 1, 3, 7), (2, 0, False, 0, 4, -1, -1)])


if __name__ == "__main__":
    unittest.main()
