"""Point 2: os_read."""

import random
import unittest

from oftenest.station import Station
from tests.calls import ask, os_of, os_reads, os_start

MOST = 4294967295


def after(k, values, asked):
    """What os_of answers of each value asked for, behind these readings."""
    rows = [os_start(0, 0, k)] + os_reads(0, values)
    given = ask(rows + [os_of(0, x) for x in asked])
    return given[len(rows):]


class Read(unittest.TestCase):
    def test_answers_0(self):
        self.assertEqual(ask([os_start(0, 0, 1)] + os_reads(0, [3, 3, 4, 5])), [[0]] * 5)

    def test_value_gets_a_counter(self):
        self.assertEqual(after(2, [7], [7, 8]), [[1, 1, 1, 1], [0, 0, 0, 1]])
        self.assertEqual(after(2, [7, 8], [7, 8]), [[1, 1, 1, 2], [1, 1, 1, 2]])

    def test_value_has_a_counter(self):
        self.assertEqual(after(2, [7, 7, 8, 7], [7, 8]), [[1, 3, 3, 4], [1, 1, 1, 4]])

    def test_value_has_a_counter_while_all_are_taken(self):
        self.assertEqual(after(1, [7, 7, 7], [7]), [[1, 3, 3, 3]])
        self.assertEqual(after(2, [7, 8, 8], [7, 8]), [[1, 1, 1, 3], [1, 2, 2, 3]])

    def test_all_counters_taken_each_is_one_less(self):
        self.assertEqual(
            after(3, [1, 1, 1, 2, 2, 3, 3, 9], [1, 2, 3, 9]),
            [[1, 2, 3, 8], [1, 1, 2, 8], [1, 1, 2, 8], [0, 0, 1, 8]])

    def test_those_that_come_to_0_go(self):
        self.assertEqual(
            after(3, [1, 1, 2, 3, 9], [1, 2, 3, 9]),
            [[1, 1, 2, 5], [0, 0, 1, 5], [0, 0, 1, 5], [0, 0, 1, 5]])

    def test_room_again_behind_counters_that_went(self):
        self.assertEqual(
            after(2, [1, 1, 2, 9, 9, 2], [1, 9, 2]),
            [[0, 0, 2, 6], [0, 0, 2, 6], [0, 0, 2, 6]])
        self.assertEqual(
            after(2, [1, 1, 2, 9, 9], [1, 9, 2]),
            [[1, 1, 2, 5], [1, 1, 2, 5], [0, 0, 1, 5]])

    def test_one_counter(self):
        self.assertEqual(after(1, [5, 6], [5, 6]), [[0, 0, 1, 2], [0, 0, 1, 2]])
        self.assertEqual(after(1, [5, 6, 6], [5, 6]), [[0, 0, 1, 3], [1, 1, 2, 3]])

    def test_sixteen_counters(self):
        values = list(range(100, 116))
        self.assertEqual(after(16, values, values), [[1, 1, 1, 16]] * 16)
        self.assertEqual(after(16, values + [116], values + [116]), [[0, 0, 1, 17]] * 17)

    def test_greatest_and_least_values(self):
        self.assertEqual(
            after(2, [MOST, 0, MOST], [MOST, 0, MOST - 1, 2147483648]),
            [[1, 2, 2, 3], [1, 1, 1, 3], [0, 0, 0, 3], [0, 0, 0, 3]])
        self.assertEqual(after(1, [0, 0, MOST], [0, MOST]), [[1, 1, 2, 3], [0, 0, 1, 3]])

    def test_many_readings(self):
        self.assertEqual(after(1, [4] * 998, [4]), [[1, 998, 998, 998]])
        self.assertEqual(after(1, [4, 5] * 499, [4]), [[0, 0, 499, 998]])


class NoRoom(unittest.TestCase):
    """2^32 - 1 readings don't fit into a list of calls, so the station is asked itself."""

    def test_last_reading_is_taken(self):
        station = Station(0, 2)
        station.stream.readings = MOST - 1
        self.assertEqual(station.read(5), [0])
        self.assertEqual(station.tell(5), [1, 1, 1, MOST])

    def test_no_reading_behind_the_last(self):
        for values in ([], [5], [6], [6, 7]):
            station = Station(0, 2)
            for x in values:
                station.read(x)
            station.stream.readings = MOST
            before = station.say()
            self.assertEqual(station.read(5), [-28])
            self.assertEqual(station.say(), before)


class NotFarOff(unittest.TestCase):
    def test_told_from_below_and_from_above(self):
        source = random.Random(20)
        for k in list(range(1, 17)) * 4:
            kinds = source.randint(1, 3 * k)
            values = [min(source.randrange(kinds), source.randrange(kinds)) for turn in range(source.randint(0, 300))]
            told = after(k, values, range(kinds))
            for x in range(kinds):
                found, low, high, readings = told[x]
                self.assertTrue(low <= values.count(x) <= high)
                self.assertEqual(found, 1 if low else 0)
                self.assertEqual(readings, len(values))
                if values.count(x) * (k + 1) > len(values):
                    self.assertEqual(found, 1)
                if kinds <= k:
                    self.assertEqual((low, high), (values.count(x), values.count(x)))
            wrong = told[0][2] - told[0][1]
            self.assertEqual(sum(row[1] for row in told) + (k + 1) * wrong, len(values))
            self.assertLessEqual(sum(row[0] for row in told), k)


if __name__ == "__main__":
    unittest.main()
