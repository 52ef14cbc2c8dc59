"""Point 4: os_of."""

import unittest

from tests.calls import ask, os_of, os_read, os_reads, os_start

MOST = 4294967295


class Of(unittest.TestCase):
    def test_without_readings(self):
        for x in (0, 1, MOST):
            self.assertEqual(ask([os_start(0, 0, 3), os_of(0, x)])[-1], [0, 0, 0, 0])

    def test_value_with_a_counter_and_one_without(self):
        rows = [os_start(0, 0, 3)] + os_reads(0, [0, 5, 5]) + [os_of(0, 0), os_of(0, 5), os_of(0, 6)]
        self.assertEqual(ask(rows)[-3:], [[1, 1, 1, 3], [1, 2, 2, 3], [0, 0, 0, 3]])

    def test_before_and_after_counters_went(self):
        rows = [os_start(0, 0, 2)] + os_reads(0, [5, 5, 5, 6])
        rows += [os_of(0, 5), os_of(0, 6), os_of(0, 7)]
        rows += [os_read(0, 7)]
        rows += [os_of(0, 5), os_of(0, 6), os_of(0, 7)]
        rows += [os_read(0, 7)]
        rows += [os_of(0, 5), os_of(0, 6), os_of(0, 7)]
        given = ask(rows)
        self.assertEqual(given[5:8], [[1, 3, 3, 4], [1, 1, 1, 4], [0, 0, 0, 4]])
        self.assertEqual(given[9:12], [[1, 2, 3, 5], [0, 0, 1, 5], [0, 0, 1, 5]])
        self.assertEqual(given[13:16], [[1, 2, 3, 6], [0, 0, 1, 6], [1, 1, 2, 6]])

    def test_wrong_grows_in_the_second_number(self):
        rows = [os_start(0, 0, 1)] + os_reads(0, [9] * 10)
        for turn in range(4):
            rows += [os_read(0, 100 + turn), os_of(0, 9), os_of(0, 100)]
        given = ask(rows)[11:]
        for turn in range(4):
            self.assertEqual(given[3 * turn + 1], [1, 9 - turn, 10, 11 + turn])
            self.assertEqual(given[3 * turn + 2], [0, 0, 1 + turn, 11 + turn])

    def test_asking_is_no_reading(self):
        rows = [os_start(0, 0, 1), os_read(0, 5)] + [os_of(0, 6)] * 5 + [os_of(0, 5)]
        self.assertEqual(ask(rows)[-2:], [[0, 0, 0, 1], [1, 1, 1, 1]])

    def test_each_station_tells_its_own(self):
        rows = [os_start(0, 0, 2), os_start(3, 0, 2), os_read(0, 5), os_of(0, 5), os_of(3, 5)]
        self.assertEqual(ask(rows)[-2:], [[1, 1, 1, 1], [0, 0, 0, 0]])


if __name__ == "__main__":
    unittest.main()
