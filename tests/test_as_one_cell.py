"""What the whole is for: what clients read and write is as if there were one cell, used by one after the other."""

import itertools
import unittest

from runs import drawn_line
from talk import ask, begin, in_groups, last, lose, read, record_after, round_trips, see_record, take, write

LINES = 150


def could_be_next(operation, left):
    """None of those left had ended when this one began."""
    return all(other["end"] == -1 or other["end"] > operation["begin"] for other in left)


def is_as_one_cell(operations, value, tried):
    """Whether these can be put into a row, one after the other, that gives each what it ended with.

    What hasn't ended may come at any time or never.
    """
    ended = [operation for operation in operations if operation["end"] != -1]
    if not ended:
        return True
    key = (tuple(operation["begin"] for operation in operations), value)
    if key in tried:
        return False
    tried.add(key)
    for operation in operations:
        if not could_be_next(operation, ended):
            continue
        rest = [other for other in operations if other is not operation]
        if operation["writes"] and is_as_one_cell(rest, operation["value"], tried):
            return True
        if not operation["writes"] and operation["result"] == value and is_as_one_cell(rest, value, tried):
            return True
    return False


def of_cell(record, cell):
    """The cell's operations; reads that haven't ended say nothing and are left out."""
    operations = []
    for client, of, writes, value, begin, end, result in record:
        if of == cell and (writes or end != -1):
            operations.append({"writes": writes, "value": value, "begin": begin, "end": end, "result": result})
    return operations


def vanishing_writes():
    """Three nodes, and all ways in which a write goes on and none or one of them keeps it."""
    for nodes in ([], [0], [1], [2]):
        yield [begin(1, 1, 1), write(0, 0, 5)] + round_trips(3, [0, 1]) + round_trips(3, nodes)


def whole_reads(calls, client):
    """All ways in which two of the three nodes answer a read, and in which it ends."""
    for nodes in itertools.permutations(range(3), 2):
        heard = calls + [read(client, 0)] + round_trips(3, list(nodes))
        if last(*heard)[0] == 4:
            yield heard
        else:
            # Two keeps lie in the row, and one more node is enough.
            yield heard + [take(0), take(1), lose(0)]
            yield heard + [take(1), take(1), lose(0)]


def whole_writes(calls, client, value):
    for nodes in itertools.combinations(range(3), 2):
        for keepers in itertools.combinations(range(3), 2):
            yield calls + [write(client, 0, value)] + round_trips(3, list(nodes)) + round_trips(3, list(keepers))


class AsOneCell(unittest.TestCase):
    def check_line(self, calls):
        record = record_after(*calls)
        self.assertEqual([operation[5] == -1 for operation in record], [True] + [False] * (len(record) - 1))
        self.assertTrue(is_as_one_cell(of_cell(record, 0), 0, set()), record)

    def test_two_reads_behind_a_write_that_never_ends(self):
        for written in vanishing_writes():
            for once in whole_reads(written, 1):
                for twice in whole_reads(once, 2):
                    self.check_line(twice)

    def test_a_write_between_two_reads(self):
        for written in vanishing_writes():
            for once in whole_reads(written, 1):
                for between in whole_writes(once, 3, 6):
                    for twice in whole_reads(between, 2):
                        self.check_line(twice)

    def test_lines_drawn_by_lot(self):
        ends = {0: 0, 1: 0}
        for number in range(LINES):
            calls = drawn_line(number, 99)
            told = ask(*calls, see_record())
            record = in_groups(told[-1], 7)
            for cell in range(3):
                self.assertTrue(is_as_one_cell(of_cell(record, cell), 0, set()), (number, cell, record))
            self.check_events(told, record)
            for operation in record:
                ends[operation[2]] += operation[5] != -1
        # The lot must not be such that next to nothing ends.
        self.assertGreater(ends[0], LINES)
        self.assertGreater(ends[1], LINES)

    def check_events(self, told, record):
        """Beginnings and ends have the numbers from 0 on, and ended with is what was answered, in that order."""
        ended = sorted(operation[5:] for operation in record if operation[5] != -1)
        events = [operation[4] for operation in record] + [end for end, result in ended]
        self.assertEqual(sorted(events), list(range(len(events))))
        answered = [answer[1] for answer in told[:-1] if answer[0] == 4 and len(answer) == 2]
        self.assertEqual([result for end, result in ended], answered)

    def test_the_check_itself(self):
        def operation(writes, value, begin, end, result):
            return {"writes": writes, "value": value, "begin": begin, "end": end, "result": result}

        write_ended, write_lost = operation(1, 5, 0, 1, 0), operation(1, 5, 0, -1, -1)
        self.assertTrue(is_as_one_cell([write_ended, operation(0, 0, 2, 3, 5)], 0, set()))
        self.assertFalse(is_as_one_cell([write_ended, operation(0, 0, 2, 3, 0)], 0, set()))
        self.assertTrue(is_as_one_cell([write_lost, operation(0, 0, 1, 2, 0), operation(0, 0, 3, 4, 5)], 0, set()))
        self.assertFalse(is_as_one_cell([write_lost, operation(0, 0, 1, 2, 5), operation(0, 0, 3, 4, 0)], 0, set()))


if __name__ == "__main__":
    unittest.main()
