"""Point 7: oc_of, and what is known of two streams put together."""

import itertools
import random
import unittest

from tests.calls import ask, oc_heard, oc_of, oc_start
from tests.messages import made, said

MOST = 4294967295


def told(k, stations, messages, asked):
    """What oc_of answers of each value asked for, behind these messages."""
    rows = [oc_start(k, stations)] + [oc_heard(message) for message in messages]
    given = ask(rows + [oc_of(x) for x in asked])
    return given[len(rows):]


def all_together(k, heard):
    """The document's words once more: heard has a dict, wrong and readings of each station, from 0 on."""
    counts, wrong, readings = {}, 0, 0
    for more_counts, more_wrong, more_readings in heard:
        sums = {x: counts.get(x, 0) + more_counts.get(x, 0) for x in set(counts) | set(more_counts)}
        standing = sorted(sums.values())[::-1]
        c = standing[k] if len(standing) > k else 0
        counts = {x: count - c for x, count in sums.items() if count - c > 0}
        wrong += more_wrong + c
        readings += more_readings
    return counts, wrong, readings


class CentreOf(unittest.TestCase):
    def test_nothing_heard(self):
        self.assertEqual(told(3, 16, [], [0, 5, MOST]), [[0, 0, 0, 0]] * 3)

    def test_one_station(self):
        message = said(0, 2, [5, 5, 5, 6, 7])
        self.assertEqual(told(2, 1, [message], [5, 6, 7]), [[1, 2, 3, 5], [0, 0, 1, 5], [0, 0, 1, 5]])

    def test_one_station_that_is_not_the_first(self):
        for station in range(16):
            message = made(station, 2, [(0, 3), (MOST, 2)], readings=20, wrong=4)
            self.assertEqual(
                told(2, 16, [message], [0, MOST, 1]),
                [[1, 3, 7, 20], [1, 2, 6, 20], [0, 0, 4, 20]])

    def test_wrong_and_readings_without_counters(self):
        messages = [made(0, 1, [], readings=9, wrong=4), made(1, 1, [], readings=5)]
        self.assertEqual(told(1, 2, messages, [5]), [[0, 0, 4, 14]])

    def test_value_in_both_has_the_sum(self):
        messages = [made(0, 3, [(5, 2), (6, 1)], wrong=1), made(1, 3, [(5, 4), (7, 3)], wrong=2)]
        self.assertEqual(
            told(3, 2, messages, [5, 6, 7, 8]),
            [[1, 6, 9, 22], [1, 1, 4, 22], [1, 3, 6, 22], [0, 0, 3, 22]])

    def test_just_k_counters_together(self):
        messages = [made(0, 2, [(5, 2)]), made(1, 2, [(6, 1)])]
        self.assertEqual(told(2, 2, messages, [5, 6]), [[1, 2, 2, 3], [1, 1, 1, 3]])

    def test_one_more_than_k(self):
        messages = [made(0, 2, [(5, 7), (6, 3)]), made(1, 2, [(7, 5)])]
        self.assertEqual(told(2, 2, messages, [5, 6, 7]), [[1, 4, 7, 15], [0, 0, 3, 15], [1, 2, 5, 15]])

    def test_many_more_than_k(self):
        messages = [made(0, 3, [(1, 9), (2, 8), (3, 2)]), made(1, 3, [(4, 7), (5, 4), (6, 1)], wrong=2)]
        self.assertEqual(
            told(3, 2, messages, [1, 2, 3, 4, 5, 6]),
            [[1, 5, 11, 39], [1, 4, 10, 39], [0, 0, 6, 39], [1, 3, 9, 39], [0, 0, 6, 39], [0, 0, 6, 39]])

    def test_all_come_to_0(self):
        messages = [made(0, 2, [(5, 4), (6, 4)]), made(1, 2, [(7, 4)])]
        self.assertEqual(told(2, 2, messages, [5, 6, 7]), [[0, 0, 4, 12]] * 3)

    def test_equal_counts_round_the_place_of_c(self):
        messages = [made(0, 3, [(5, 9), (6, 4), (7, 4)]), made(1, 3, [(8, 4), (9, 4)])]
        self.assertEqual(
            told(3, 2, messages, [5, 6, 7, 8, 9]),
            [[1, 5, 9, 25]] + [[0, 0, 4, 25]] * 4)
        messages = [made(0, 3, [(5, 4), (6, 4), (7, 4)]), made(1, 3, [(8, 1)])]
        self.assertEqual(
            told(3, 2, messages, [5, 6, 7, 8]),
            [[1, 3, 4, 13]] * 3 + [[0, 0, 1, 13]])

    def test_sums_come_before_the_greatest_are_looked_for(self):
        messages = [made(0, 2, [(5, 3), (6, 4)]), made(1, 2, [(5, 3), (7, 5)])]
        self.assertEqual(told(2, 2, messages, [5, 6, 7]), [[1, 2, 6, 15], [0, 0, 4, 15], [1, 1, 5, 15]])

    def test_one_counter(self):
        messages = [made(0, 1, [(5, 9)]), made(1, 1, [(6, 4)]), made(2, 1, [(6, 4)])]
        self.assertEqual(told(1, 3, messages, [5, 6]), [[1, 1, 9, 17], [0, 0, 8, 17]])

    def test_sixteen_counters_of_sixteen_stations(self):
        messages = [made(station, 16, [(x, x + 1) for x in range(16)]) for station in range(16)]
        self.assertEqual(
            told(16, 16, messages, range(17)),
            [[1, 16 * (x + 1), 16 * (x + 1), 2176] for x in range(16)] + [[0, 0, 0, 2176]])

    def test_from_station_0_on(self):
        """Put together the other way round, or all at once, these come out otherwise."""
        messages = [made(0, 1, [(5, 4)]), made(1, 1, [(6, 3)]), made(2, 1, [(7, 3)])]
        self.assertEqual(told(1, 3, messages, [5, 6, 7]), [[0, 0, 4, 10], [0, 0, 4, 10], [1, 2, 6, 10]])
        messages = [made(0, 1, [(7, 3)]), made(1, 1, [(6, 3)]), made(2, 1, [(5, 4)])]
        self.assertEqual(told(1, 3, messages, [5, 6, 7]), [[1, 4, 7, 10], [0, 0, 3, 10], [0, 0, 3, 10]])

    def test_heard_in_another_order(self):
        messages = [made(0, 1, [(5, 4)]), made(1, 1, [(6, 3)]), made(2, 1, [(7, 3)]), made(3, 1, [(7, 2)], wrong=3)]
        expected = [[0, 0, 7, 18], [0, 0, 7, 18], [1, 4, 11, 18]]
        for order in itertools.permutations(messages):
            self.assertEqual(told(1, 4, order, [5, 6, 7]), expected)

    def test_more_heard_of_a_station_keeps_its_place(self):
        old = made(0, 1, [(7, 1)])
        messages = [made(0, 1, [(5, 4)]), made(1, 1, [(6, 3)]), made(2, 1, [(7, 3)])]
        expected = [[0, 0, 4, 10], [0, 0, 4, 10], [1, 2, 6, 10]]
        self.assertEqual(told(1, 3, [old] + messages[1:] + messages[:1], [5, 6, 7]), expected)

    def test_between_messages(self):
        rows = [oc_start(2, 2), oc_heard(made(1, 2, [(5, 3), (6, 1)])), oc_of(5), oc_of(6),
                oc_heard(made(0, 2, [(7, 2)])), oc_of(5), oc_of(6), oc_of(7),
                oc_heard(made(1, 2, [(5, 6)])), oc_of(5), oc_of(6), oc_of(7)]
        self.assertEqual(ask(rows)[1:], [
            [1], [1, 3, 3, 4], [1, 1, 1, 4],
            [1], [1, 2, 3, 6], [0, 0, 1, 6], [1, 1, 2, 6],
            [1], [1, 6, 6, 8], [0, 0, 0, 8], [1, 2, 2, 8]])

    def test_asking_changes_nothing(self):
        messages = [made(0, 2, [(5, 7), (6, 3)]), made(1, 2, [(7, 5)])]
        self.assertEqual(told(2, 2, messages, [5] * 20), [[1, 4, 7, 15]] * 20)

    def test_greatest_numbers(self):
        messages = [made(station, 1, [(5, MOST)]) for station in range(16)]
        self.assertEqual(told(1, 16, messages, [5]), [[1, 16 * MOST, 16 * MOST, 16 * MOST]])
        messages = [made(station, 2, [], readings=MOST, wrong=MOST // 3) for station in range(16)]
        self.assertEqual(told(2, 16, messages, [5]), [[0, 0, 16 * (MOST // 3), 16 * MOST]])
        messages = [made(station, 1, [(station, MOST)]) for station in range(16)]
        self.assertEqual(told(1, 16, messages, [0, 15]), [[0, 0, 8 * MOST, 16 * MOST]] * 2)

    def test_as_the_words_say(self):
        source = random.Random(7)
        for turn in range(150):
            k = source.randint(1, 16)
            stations = source.randint(1, 16)
            kinds = source.randint(1, 3 * k)
            messages, heard = [], []
            for station in range(stations):
                values = sorted(source.sample(range(kinds), source.randint(0, min(k, kinds))))
                counters = [(x, source.randint(1, source.choice((3, 50, 100000)))) for x in values]
                wrong = source.choice((0, 0, 1, 7, 1000))
                readings = sum(count for x, count in counters) + (k + 1) * wrong + source.choice((0, 0, 5))
                messages.append(made(station, k, counters, readings=readings, wrong=wrong))
                heard.append((dict(counters), wrong, readings))
            source.shuffle(messages)
            counts, wrong, readings = all_together(k, heard)
            expected = []
            for x in range(kinds + 1):
                low = counts.get(x, 0)
                expected.append([1 if x in counts else 0, low, low + wrong, readings])
            self.assertEqual(told(k, stations, messages, range(kinds + 1)), expected)


if __name__ == "__main__":
    unittest.main()
