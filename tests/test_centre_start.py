"""Point 5: oc_start."""

import unittest

from tests.calls import ask, oc_heard, oc_of, oc_often, oc_start, os_of, os_read, os_say, os_start
from tests.messages import made, said

MOST = 4294967295
FAR = (17, 18, 255, 256, 257, 65536, 65537, 2147483649, MOST)


class CentreStart(unittest.TestCase):
    def test_k_from_1_to_16(self):
        for k in range(1, 17):
            self.assertEqual(ask([oc_start(k, 4)]), [[0]], k)

    def test_k_outside_1_to_16(self):
        for k in (0,) + FAR:
            self.assertEqual(ask([oc_start(k, 4)]), [[-22]], k)

    def test_stations_from_1_to_16(self):
        for stations in range(1, 17):
            self.assertEqual(ask([oc_start(4, stations)]), [[0]], stations)

    def test_stations_outside_1_to_16(self):
        for stations in (0,) + FAR:
            self.assertEqual(ask([oc_start(4, stations)]), [[-22]], stations)

    def test_both_at_the_edges(self):
        for k in (0, 1, 16, 17, MOST):
            for stations in (0, 1, 16, 17, MOST):
                right = k in (1, 16) and stations in (1, 16)
                self.assertEqual(ask([oc_start(k, stations)]), [[0 if right else -22]], (k, stations))

    def test_new_centre_heard_nothing(self):
        for k in (1, 16):
            for stations in (1, 16):
                rows = [oc_start(k, stations), oc_of(0), oc_of(MOST), oc_often(1), oc_often(MOST)]
                nothing = [[0, 0, 0, 0]] * 2 + [[0] * 17] * 2
                self.assertEqual(ask(rows)[1:], nothing)

    def test_start_after_refused_ones(self):
        rows = [oc_start(0, 1), oc_start(1, 0), oc_start(17, 17), oc_start(2, 3), oc_of(5)]
        self.assertEqual(ask(rows), [[-22], [-22], [-22], [0], [0, 0, 0, 0]])

    def test_refused_start_leaves_all_as_it_was(self):
        begin = [oc_start(2, 3), oc_heard(made(1, 2, [(5, 4), (6, 3)], wrong=1)), oc_heard(made(2, 2, [(7, 2)]))]
        then = [oc_of(5), oc_of(6), oc_of(7), oc_often(1), oc_often(3)]
        then += [oc_heard(made(1, 2, [(5, 9)], readings=10)), oc_heard(made(0, 1, [(5, 9)])),
                 oc_heard(made(3, 2, [(5, 9)])), oc_heard(made(0, 2, [(5, 9)])), oc_of(5)]
        kept = ask(begin + then)[len(begin):]
        self.assertEqual(kept[0], [1, 2, 5, 12])
        self.assertEqual([row[0] for row in kept[5:9]], [0, -71, -71, 1])
        for k, stations in ((0, 3), (17, 3), (2, 0), (2, 17), (0, 0), (MOST, MOST)):
            given = ask(begin + [oc_start(k, stations)] + then)[len(begin):]
            self.assertEqual(given, [[-22]] + kept, (k, stations))

    def test_started_again_heard_nothing(self):
        message = made(0, 2, [(5, 4)], wrong=1)
        rows = [oc_start(2, 1), oc_heard(message), oc_of(5), oc_start(2, 1), oc_of(5), oc_often(1),
                oc_heard(message), oc_of(5)]
        told = [1, 4, 5, 7]
        self.assertEqual(ask(rows), [[0], [1], told, [0], [0, 0, 0, 0], [0] * 17, [1], told])

    def test_new_k_and_stations_hold(self):
        old = made(0, 2, [(5, 4), (6, 1)])
        new = made(3, 1, [(5, 4)])
        rows = [oc_start(2, 3), oc_heard(old), oc_heard(new), oc_start(1, 4), oc_heard(old), oc_heard(new), oc_of(5)]
        self.assertEqual(ask(rows), [[0], [1], [-71], [0], [-71], [1], [1, 4, 4, 4]])
        rows = [oc_start(1, 4), oc_heard(new), oc_start(1, 3), oc_heard(new), oc_of(5)]
        self.assertEqual(ask(rows), [[0], [1], [0], [-71], [0, 0, 0, 0]])

    def test_stations_and_centre_each_for_themselves(self):
        rows = [os_start(0, 0, 2), os_read(0, 5), oc_start(3, 2), os_of(0, 5), oc_of(5),
                oc_heard(made(0, 3, [(6, 2)])), os_of(0, 6), os_start(0, 0, 3), oc_of(6), os_say(0)]
        given = ask(rows)
        self.assertEqual(given[:9], [[0], [0], [0], [1, 1, 1, 1], [0] * 4, [1], [0, 0, 0, 1], [0], [1, 2, 2, 2]])
        self.assertEqual(given[9], [0] + said(0, 3, []))


if __name__ == "__main__":
    unittest.main()
