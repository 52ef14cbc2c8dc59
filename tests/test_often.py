"""Point 8: oc_often."""

import random
import unittest

from tests.calls import ask, oc_heard, oc_of, oc_often, oc_start
from tests.messages import made, said

MOST = 4294967295


def often(k, messages, parts, stations=16):
    """What oc_often answers of each p, behind these messages."""
    rows = [oc_start(k, stations)] + [oc_heard(message) for message in messages]
    given = ask(rows + [oc_often(p) for p in parts])
    return given[len(rows):]


def row_of(values):
    return [len(values)] + list(values) + [0] * (16 - len(values))


class Often(unittest.TestCase):
    def test_p_of_0(self):
        self.assertEqual(often(3, [], [0]), [[-22]])
        self.assertEqual(often(3, [made(0, 3, [(5, 2)])], [0, 1, 0]), [[-22], row_of([]), [-22]])

    def test_p_of_0_leaves_all_as_it_was(self):
        rows = [oc_start(3, 2), oc_heard(made(0, 3, [(5, 2)])), oc_often(0), oc_of(5), oc_often(2),
                oc_heard(made(0, 3, [(5, 2)]))]
        self.assertEqual(ask(rows)[2:], [[-22], [1, 2, 2, 2], row_of([5]), [0]])

    def test_nothing_heard(self):
        self.assertEqual(often(3, [], [1, 2, 4, MOST]), [row_of([])] * 4)

    def test_no_counters(self):
        self.assertEqual(often(1, [made(0, 1, [], readings=9, wrong=4)], [1, 2, MOST]), [row_of([])] * 3)

    def test_p_of_1_tells_none(self):
        self.assertEqual(often(1, [made(0, 1, [(5, 9)])], [1]), [row_of([])])
        self.assertEqual(often(16, [made(0, 16, [(5, 9), (6, 1)])], [1]), [row_of([])])

    def test_more_than_half(self):
        self.assertEqual(often(3, [made(0, 3, [(5, 4), (6, 4)])], [2]), [row_of([])])
        self.assertEqual(often(3, [made(0, 3, [(5, 4), (6, 5)])], [2]), [row_of([6])])
        self.assertEqual(often(3, [made(0, 3, [(5, 5), (6, 4)])], [2]), [row_of([5])])

    def test_just_once_in_p_is_not_oftener(self):
        for p in range(1, 17):
            self.assertEqual(often(3, [made(0, 3, [(5, 7)], readings=7 * p)], [p, p + 1]), [row_of([]), row_of([5])])
            self.assertEqual(often(3, [made(0, 3, [(5, 7)], readings=7 * p + 1)], [p]), [row_of([])])
            if p > 1:
                self.assertEqual(often(3, [made(0, 3, [(5, 7)], readings=7 * p - 1)], [p]), [row_of([5])])

    def test_p_of_k_and_1(self):
        for k in range(1, 17):
            counters = [(100 + x, 2) for x in range(k)]
            self.assertEqual(often(k, [made(0, k, counters, readings=2 * k + 2)], [k + 1]), [row_of([])])
            self.assertEqual(
                often(k, [made(0, k, counters, readings=2 * k + 1)], [k + 1]), [row_of(range(100, 100 + k))])

    def test_p_far_above(self):
        message = made(0, 3, [(0, 1), (7, 1), (MOST, 1)], readings=MOST - 1)
        self.assertEqual(often(3, [message], [MOST, MOST - 1]), [row_of([0, 7, MOST]), row_of([])])
        message = made(0, 1, [(5, MOST)])
        self.assertEqual(often(1, [message], [MOST, 2, 1]), [row_of([5]), row_of([5]), row_of([])])

    def test_p_times_a_count_is_cut_off_nowhere(self):
        message = made(0, 1, [(5, 65536)], readings=65537)
        self.assertEqual(often(1, [message], [65536, 131072]), [row_of([5])] * 2)
        messages = [made(station, 1, [(5, MOST)]) for station in range(16)]
        self.assertEqual(often(1, messages, [MOST, 1]), [row_of([5]), row_of([])])

    def test_counts_and_not_what_is_told_from_above(self):
        message = made(0, 3, [(5, 3), (6, 1)], readings=12, wrong=2)
        self.assertEqual(often(3, [message], [3, 4, 5, 12, 13]), [
            row_of([]), row_of([]), row_of([5]), row_of([5]), row_of([5, 6])])

    def test_some_of_many(self):
        message = made(0, 5, [(2, 1), (3, 30), (5, 9), (8, 30), (9, 30)])
        self.assertEqual(often(5, [message], [1, 2, 3, 4, 11, 12, 100, 101]), [
            row_of([]), row_of([]), row_of([]), row_of([3, 8, 9]), row_of([3, 8, 9]),
            row_of([3, 5, 8, 9]), row_of([3, 5, 8, 9]), row_of([2, 3, 5, 8, 9])])

    def test_sixteen_values(self):
        values = [x * 268435455 for x in range(16)] + [MOST]
        message = made(0, 16, [(x, 3) for x in values[1:]])
        self.assertEqual(often(16, [message], [16, 17, MOST]), [row_of([]), row_of(values[1:]), row_of(values[1:])])

    def test_values_rise_however_they_came(self):
        self.assertEqual(often(4, [said(0, 4, [9, MOST, 0, 4])], [5]), [row_of([0, 4, 9, MOST])])
        messages = [made(0, 4, [(9, 1), (MOST, 8)]), made(1, 4, [(0, 2), (4, 5)])]
        self.assertEqual(often(4, messages, [100]), [row_of([0, 4, 9, MOST])])
        self.assertEqual(often(4, messages[::-1], [100]), [row_of([0, 4, 9, MOST])])

    def test_value_0_is_told_and_counted(self):
        self.assertEqual(often(2, [made(0, 2, [(0, 3)])], [2]), [[1] + [0] * 16])
        self.assertEqual(often(2, [made(0, 2, [(0, 3), (1, 3)])], [3]), [[2, 0, 1] + [0] * 14])

    def test_of_all_stations(self):
        messages = [made(0, 2, [(5, 7), (6, 3)]), made(1, 2, [(7, 5)])]
        self.assertEqual(often(2, messages[:1], [2, 4]), [row_of([5]), row_of([5, 6])])
        self.assertEqual(often(2, messages, [2, 3, 4, 7, 8]), [
            row_of([]), row_of([]), row_of([5]), row_of([5]), row_of([5, 7])])

    def test_asking_changes_nothing(self):
        messages = [made(0, 2, [(5, 7), (6, 3)]), made(1, 2, [(7, 5)])]
        self.assertEqual(often(2, messages, [4] * 20), [row_of([5])] * 20)

    def test_tells_what_oc_of_tells(self):
        source = random.Random(8)
        for turn in range(100):
            k = source.randint(1, 16)
            kinds = source.randint(1, 2 * k)
            rows = [oc_start(k, 16)]
            for station in range(source.randint(1, 6)):
                values = [min(source.randrange(kinds), source.randrange(kinds)) for step in range(60)]
                rows.append(oc_heard(said(station, k, values)))
            parts = [1, 2, 3, k, k + 1, k + 2, 60, 1000, MOST]
            given = ask(rows + [oc_of(x) for x in range(kinds)] + [oc_often(p) for p in parts])[len(rows):]
            told = given[:kinds]
            for place, p in enumerate(parts):
                self.assertEqual(
                    given[kinds + place], row_of([x for x in range(kinds) if told[x][1] * p > told[x][3]]))


if __name__ == "__main__":
    unittest.main()
