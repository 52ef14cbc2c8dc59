"""Point 1: os_start."""

import unittest

from tests.calls import ask, os_of, os_read, os_reads, os_say, os_start

MOST = 4294967295


class Start(unittest.TestCase):
    def test_me_up_to_15(self):
        for me in range(16):
            self.assertEqual(ask([os_start(0, me, 4)]), [[0]], me)

    def test_me_above_15(self):
        for me in (16, 17, 255, 256, 271, 65536, MOST):
            self.assertEqual(ask([os_start(0, me, 4)]), [[-22]], me)

    def test_k_from_1_to_16(self):
        for k in range(1, 17):
            self.assertEqual(ask([os_start(0, 3, k)]), [[0]], k)

    def test_k_outside_1_to_16(self):
        for k in (0, 17, 18, 255, 257, 65537, MOST):
            self.assertEqual(ask([os_start(0, 3, k)]), [[-22]], k)

    def test_both_wrong(self):
        self.assertEqual(ask([os_start(0, 16, 0)]), [[-22]])
        self.assertEqual(ask([os_start(0, 16, 17)]), [[-22]])

    def test_new_station_is_without_readings(self):
        self.assertEqual(ask([os_start(2, 15, 16), os_of(2, 0)]), [[0], [0, 0, 0, 0]])

    def test_start_after_a_refused_one(self):
        given = ask([os_start(1, 16, 1), os_start(1, 0, 17), os_start(1, 15, 16), os_of(1, 5)])
        self.assertEqual(given, [[-22], [-22], [0], [0, 0, 0, 0]])

    def test_started_again_is_without_readings(self):
        rows = [os_start(0, 1, 1)] + os_reads(0, [5, 5, 6]) + [os_of(0, 5), os_start(0, 2, 3), os_of(0, 5)]
        self.assertEqual(ask(rows)[-3:], [[1, 1, 2, 3], [0], [0, 0, 0, 0]])
        again = ask(rows + [os_say(0)])[-1]
        self.assertEqual(again, ask([os_start(0, 2, 3), os_say(0)])[-1])

    def test_started_again_with_the_same_is_without_readings(self):
        rows = [os_start(0, 1, 2)] + os_reads(0, [5, 6, 7]) + [os_start(0, 1, 2), os_say(0)]
        self.assertEqual(ask(rows)[-1], ask([os_start(0, 1, 2), os_say(0)])[-1])

    def test_new_k_holds(self):
        rows = [os_start(0, 1, 1), os_start(0, 1, 2)] + os_reads(0, [8, 9])
        self.assertEqual(ask(rows + [os_of(0, 8), os_of(0, 9)])[-2:], [[1, 1, 1, 2], [1, 1, 1, 2]])

    def test_refused_start_leaves_all_as_it_was(self):
        begin = [os_start(0, 4, 2)] + os_reads(0, [5, 5, 6, 7])
        then = os_reads(0, [8, 9, 9]) + [os_say(0), os_of(0, 5), os_of(0, 9)]
        kept = ask(begin + then)[-6:]
        for me, k in ((16, 2), (4, 0), (4, 17), (MOST, MOST)):
            given = ask(begin + [os_start(0, me, k)] + then)
            self.assertEqual(given[len(begin)], [-22])
            self.assertEqual(given[-6:], kept)

    def test_four_stations_each_for_itself(self):
        rows = [os_start(place, 12 + place, 1 + place) for place in range(4)]
        for x in (10, 20, 30, 40):
            for place in range(4):
                rows.append(os_read(place, x + place))
        first = len(rows)
        rows += [os_say(place) for place in range(4)]
        given = ask(rows)[first:]
        for place in range(4):
            alone = [os_start(0, 12 + place, 1 + place)] + os_reads(0, [x + place for x in (10, 20, 30, 40)])
            self.assertEqual(given[place], ask(alone + [os_say(0)])[-1])

    def test_start_of_one_station_leaves_the_others(self):
        rows = [os_start(place, 7, 2) for place in range(4)]
        rows += [os_read(place, place) for place in range(4)]
        rows += [os_start(1, 7, 2)]
        rows += [os_of(place, place) for place in range(4)]
        self.assertEqual(ask(rows)[-4:], [[1, 1, 1, 1], [0, 0, 0, 0], [1, 1, 1, 1], [1, 1, 1, 1]])


if __name__ == "__main__":
    unittest.main()
