"""Point 6: oc_heard, and when a message is right."""

import itertools
import random
import unittest

from oftenest.message import is_right
from tests.calls import ask, oc_heard, oc_of, oc_often, oc_start
from tests.messages import checked, low_first, made, said, with_byte

MOST = 4294967295


def heard(k, stations, messages):
    """What oc_heard answers of each message."""
    given = ask([oc_start(k, stations)] + [oc_heard(message) for message in messages])
    return [row[0] if len(row) == 1 else row for row in given[1:]]


class Right(unittest.TestCase):
    def test_what_stations_said(self):
        source = random.Random(6)
        for k in range(1, 17):
            me = source.randrange(16)
            values = [source.choice((source.randrange(3 * k), MOST - source.randrange(3))) for turn in range(90)]
            self.assertEqual(heard(k, 16, [said(me, k, values)]), [1])

    def test_made_by_hand(self):
        self.assertEqual(heard(3, 1, [made(0, 3, [(5, 2), (9, 1)], wrong=4)]), [1])

    def test_each_station_and_each_k(self):
        for k in range(1, 17):
            messages = [made(station, k, [(5, 2)]) for station in range(16)]
            self.assertEqual(heard(k, 16, messages), [1] * 16)

    def test_no_counters(self):
        self.assertEqual(heard(3, 1, [made(0, 3, [], readings=4, wrong=1)]), [1])
        self.assertEqual(heard(3, 1, [made(0, 3, [], readings=1)]), [1])

    def test_as_many_counters_as_k(self):
        for k in range(1, 17):
            self.assertEqual(heard(k, 1, [made(0, k, [(x, 1) for x in range(k)])]), [1])

    def test_greatest_and_least_values(self):
        self.assertEqual(heard(3, 1, [made(0, 3, [(0, 1), (1, 1), (MOST, 1)])]), [1])
        self.assertEqual(heard(3, 1, [made(0, 3, [(255, 1), (256, 1), (65536, 1)])]), [1])

    def test_greatest_numbers(self):
        message = made(0, 1, [(5, MOST)])
        self.assertEqual(ask([oc_start(1, 1), oc_heard(message), oc_of(5)])[1:], [[1], [1, MOST, MOST, MOST]])
        message = made(0, 1, [(5, 1)], readings=MOST, wrong=MOST // 2)
        given = ask([oc_start(1, 1), oc_heard(message), oc_of(5)])
        self.assertEqual(given[1:], [[1], [1, 1, 1 + MOST // 2, MOST]])


class NotRight(unittest.TestCase):
    """Each thing by itself, with all else as it should be."""

    GOOD = made(2, 4, [(5, 3), (9, 1), (300, 2)], readings=30, wrong=2)

    def refused(self, message):
        """That it is refused, and that all stays as it was: with nothing heard, and with something."""
        self.assertEqual(len(message), 216)
        self.assertTrue(all(0 <= octet <= 255 for octet in message))
        before = made(2, 4, [(5, 3), (9, 1)], readings=20, wrong=2)
        then = [oc_of(5), oc_of(9), oc_often(1), oc_often(9), oc_heard(self.GOOD), oc_of(300)]
        for begin in ([oc_start(4, 16)], [oc_start(4, 16), oc_heard(before)]):
            kept = ask(begin + then)[len(begin):]
            given = ask(begin + [oc_heard(message)] + then)[len(begin):]
            self.assertEqual(given, [[-71]] + kept)

    def test_good_is_right(self):
        self.assertEqual(heard(4, 16, [self.GOOD]), [1])

    def test_check(self):
        for place in range(212, 216):
            for bit in range(8):
                message = list(self.GOOD)
                message[place] ^= 1 << bit
                self.refused(message)
        self.refused(self.GOOD[:212] + [0] * 4)
        self.refused(self.GOOD[:212] + [octet ^ 255 for octet in self.GOOD[212:]])
        self.refused(self.GOOD[:212] + self.GOOD[:211:-1])

    def test_any_bit_turned_is_seen_by_the_check(self):
        messages = []
        for place in range(212):
            message = list(self.GOOD)
            message[place] ^= 1 << place % 8
            messages.append(message)
        self.assertEqual(heard(4, 16, messages[:106]), [-71] * 106)
        self.assertEqual(heard(4, 16, messages[106:]), [-71] * 106)

    def test_all_zeros_and_all_ones(self):
        self.refused([0] * 216)
        self.refused([255] * 216)
        self.refused(checked([0] * 212))
        self.refused(checked([255] * 212))

    def test_first_byte(self):
        for form in (0, 2, 3, 129, 255):
            self.refused(with_byte(self.GOOD, 0, form))

    def test_station(self):
        for station in (16, 17, 18, 31, 32, 128, 255):
            self.refused(with_byte(self.GOOD, 1, station))

    def test_k(self):
        for k in (0, 17, 20, 255):
            self.refused(made(2, k, [], readings=30))
            self.refused(made(2, k, [(5, 3)], readings=30, how_many=k))

    def test_how_many_counters(self):
        for k in range(1, 16):
            message = made(0, k, [(x, 1) for x in range(k + 1)])
            self.assertEqual(heard(k, 1, [message]), [-71], k)
        sixteen = [(x, 1) for x in range(16)]
        for how_many in (17, 18, 32, 128, 255):
            message = made(0, 16, sixteen, readings=MOST, how_many=how_many)
            self.assertEqual(heard(16, 1, [message]), [-71], how_many)
        for how_many in (4, 5, 16, 17, 255):
            self.refused(made(2, 4, [(5, 3), (9, 1), (300, 2)], readings=30, how_many=how_many))

    def test_values_that_do_not_rise(self):
        for values in ((5, 5), (6, 5), (0, 0), (MOST, MOST), (MOST, 0), (256, 1), (1, 3, 2), (1, 3, 3),
                       (2, 1, 3), (1, 2, 3, 3), (1, 5, 2, 6)):
            self.refused(made(2, 4, [(x, 1) for x in values], readings=30))

    def test_count_of_0(self):
        for place in range(3):
            counters = [(5, 3), (9, 1), (300, 2)]
            counters[place] = (counters[place][0], 0)
            self.refused(made(2, 4, counters, readings=30))

    def test_count_of_2_to_the_32_and_above(self):
        for count in (MOST + 1, MOST + 2, 2 ** 33, 2 ** 40, 2 ** 56, 2 ** 63, 2 ** 64 - 1):
            self.refused(made(2, 4, [(5, count)], readings=MOST))
            self.refused(made(2, 4, [(5, count)], readings=count))
            self.refused(made(2, 4, [(5, 1), (6, count)], readings=MOST))

    def test_counts_whose_low_bytes_would_do(self):
        for place in range(4, 8):
            self.refused(made(2, 4, [(5, 1 + (1 << 8 * place))], readings=30))
        self.refused(made(2, 4, [(5, 2 ** 63), (6, 2 ** 63)], readings=30))

    def test_readings_of_2_to_the_32_and_above(self):
        for readings in (MOST + 1, MOST + 2, 2 ** 32 + 30, 2 ** 40, 2 ** 63, 2 ** 64 - 1):
            self.refused(made(2, 4, [(5, 3)], readings=readings))
            self.refused(made(2, 4, [], readings=readings))

    def test_counts_above_the_readings(self):
        self.refused(made(2, 4, [(5, 3)], readings=2))
        self.refused(made(2, 4, [(5, 3), (6, 4)], readings=6))
        self.refused(made(2, 4, [(5, MOST), (6, 1)], readings=MOST))
        self.refused(made(2, 4, [(5, 1)], readings=0))
        self.assertEqual(heard(4, 16, [made(2, 4, [(5, 3), (6, 4)], readings=7)]), [1])

    def test_k_and_1_times_wrong_above_the_readings(self):
        self.refused(made(2, 4, [], readings=4, wrong=1))
        self.refused(made(2, 4, [], readings=0, wrong=1))
        self.refused(made(2, 4, [(5, 3)], readings=12, wrong=2))
        self.assertEqual(heard(4, 16, [made(2, 4, [(5, 3)], readings=13, wrong=2)]), [1])
        for k in range(1, 17):
            self.assertEqual(heard(k, 16, [made(2, k, [], readings=3 * k + 2, wrong=3)]), [-71])
            self.assertEqual(heard(k, 16, [made(2, k, [], readings=3 * k + 3, wrong=3)]), [1])

    def test_wrong_of_many_bytes(self):
        for wrong in (MOST, MOST + 1, 2 ** 40, 2 ** 62, 2 ** 63, 2 ** 64 - 1):
            self.refused(made(2, 4, [(5, 3)], readings=MOST, wrong=wrong))
        # k + 1 times these is just 2^64, or a little more: cut off behind 64 bits it would seem to do.
        for k, wrong in ((1, 2 ** 63), (3, 2 ** 62), (7, 2 ** 61), (15, 2 ** 60), (4, 3689348814741910324)):
            self.assertEqual(heard(k, 16, [made(2, k, [(5, 3)], readings=30, wrong=wrong)]), [-71])

    def test_byte_behind_the_counters(self):
        for place in range(56, 212):
            self.assertEqual(heard(4, 16, [with_byte(self.GOOD, place, 1 + place % 255)]), [-71], place)
        for place in (56, 60, 100, 211):
            self.refused(with_byte(self.GOOD, place, 1))
            self.refused(with_byte(self.GOOD, place, 255))
        self.refused(made(2, 4, [(5, 3), (9, 1), (300, 2)], readings=30, how_many=2))
        self.refused(made(2, 4, [(5, 3), (9, 1), (300, 2)], readings=30, how_many=0))

    def test_byte_behind_no_counters(self):
        none = made(2, 4, [], readings=30)
        for place in range(20, 212, 12):
            self.assertEqual(heard(4, 16, [with_byte(none, place, 128)]), [-71], place)

    def test_low_byte_first(self):
        octets = self.GOOD[:4] + self.GOOD[11:3:-1] + self.GOOD[12:212]
        self.refused(checked(octets))
        self.refused(checked(self.GOOD[:4] + low_first(30 << 56, 8) + self.GOOD[12:212]))


class NotRightForAnyCentre(unittest.TestCase):
    """No centre has more than 16 stations or counters, so what is right is asked by itself here."""

    def test_station(self):
        for station in range(256):
            self.assertIs(is_right(made(station, 4, [(5, 3)])), station < 16)

    def test_k(self):
        for k in range(256):
            self.assertIs(is_right(made(0, k, [], readings=3)), 1 <= k <= 16)


class NotForThisCentre(unittest.TestCase):
    def test_another_k(self):
        for k in range(1, 17):
            messages = [made(0, other, [(5, 2)]) for other in range(1, 17)]
            expected = [1 if other == k else -71 for other in range(1, 17)]
            self.assertEqual(heard(k, 1, messages), expected, k)

    def test_station_not_below_stations(self):
        for stations in range(1, 17):
            messages = [made(station, 3, [(5, 2)]) for station in range(16)]
            expected = [1 if station < stations else -71 for station in range(16)]
            self.assertEqual(heard(3, stations, messages), expected, stations)

    def test_without_readings_is_refused_first(self):
        self.assertEqual(heard(3, 2, [made(0, 4, []), made(2, 3, []), made(1, 3, [])]), [-71, -71, 0])

    def test_heard_with_more_is_refused_first(self):
        more = made(1, 3, [(5, 9)])
        few = made(1, 3, [(5, 2)])
        broken = few[:212] + [few[212] ^ 1] + few[213:]
        self.assertEqual(heard(3, 2, [more, few, broken, made(1, 2, [(5, 2)])]), [1, 0, -71, -71])

    def test_refused_leaves_all_as_it_was(self):
        begin = [oc_start(3, 2), oc_heard(made(1, 3, [(5, 2)]))]
        then = [oc_of(5), oc_often(1), oc_heard(made(1, 3, [(5, 2)])), oc_heard(made(0, 3, [(5, 1)])), oc_of(5)]
        kept = ask(begin + then)[2:]
        for message in (made(1, 2, [(5, 9)]), made(1, 4, [(5, 9)]), made(2, 3, [(5, 9)]), made(15, 3, [(5, 9)])):
            self.assertEqual(ask(begin + [oc_heard(message)] + then)[2:], [[-71]] + kept)


class Kept(unittest.TestCase):
    def test_no_readings(self):
        message = said(0, 3, [])
        self.assertEqual(message, made(0, 3, []))
        self.assertEqual(heard(3, 1, [message, message]), [0, 0])
        self.assertEqual(ask([oc_start(3, 1), oc_heard(message), oc_of(0)])[2], [0, 0, 0, 0])

    def test_no_readings_behind_some(self):
        rows = [oc_start(3, 1), oc_heard(said(0, 3, [5])), oc_heard(said(0, 3, [])), oc_of(5)]
        self.assertEqual(ask(rows)[1:], [[1], [0], [1, 1, 1, 1]])

    def test_as_many_readings(self):
        message = said(0, 3, [5, 5, 6])
        rows = [oc_start(3, 1), oc_heard(message), oc_heard(message), oc_of(5)]
        self.assertEqual(ask(rows)[1:], [[1], [0], [1, 2, 2, 3]])

    def test_as_many_readings_of_other_values(self):
        rows = [oc_start(3, 1), oc_heard(said(0, 3, [5, 5, 6])), oc_heard(said(0, 3, [7, 7, 7])), oc_of(5), oc_of(7)]
        self.assertEqual(ask(rows)[1:], [[1], [0], [1, 2, 2, 3], [0, 0, 0, 3]])

    def test_fewer_readings(self):
        rows = [oc_start(3, 1), oc_heard(said(0, 3, [5, 5, 6])), oc_heard(said(0, 3, [5, 5])), oc_of(5), oc_of(6)]
        self.assertEqual(ask(rows)[1:], [[1], [0], [1, 2, 2, 3], [1, 1, 1, 3]])

    def test_more_readings_stand_in_the_place_of_the_others(self):
        rows = [oc_start(3, 1), oc_heard(said(0, 3, [5, 5, 6])), oc_heard(said(0, 3, [7] * 4)), oc_of(5), oc_of(7)]
        self.assertEqual(ask(rows)[1:], [[1], [1], [0, 0, 0, 4], [1, 4, 4, 4]])

    def test_readings_and_not_counters_tell_which_is_kept(self):
        many = made(0, 3, [(5, 90)])
        more = made(0, 3, [], readings=91)
        rows = [oc_start(3, 1), oc_heard(many), oc_heard(more), oc_of(5), oc_heard(many), oc_of(5)]
        self.assertEqual(ask(rows)[1:], [[1], [1], [0, 0, 0, 91], [0], [0, 0, 0, 91]])

    def test_readings_of_each_byte_tell_which_is_kept(self):
        messages = [made(0, 3, [], readings=readings) for readings in (1, 255, 256, 65535, 65536, 2 ** 24, MOST)]
        self.assertEqual(heard(3, 1, messages), [1] * 7)
        self.assertEqual(heard(3, 1, messages[::-1]), [1] + [0] * 6)

    def test_each_station_for_itself(self):
        messages = [said(0, 3, [5] * 3), said(1, 3, [5] * 2), said(2, 3, [5]), said(1, 3, [5] * 3), said(0, 3, [5] * 2)]
        self.assertEqual(heard(3, 3, messages), [1, 1, 1, 1, 0])

    def test_doubled_and_late_in_any_order(self):
        first = [said(0, 2, [5, 5, 6, 7][:length]) for length in (1, 3, 4)]
        second = [said(1, 2, [8, 5]), said(1, 2, [8, 5, 8, 9, 9])]
        then = [oc_of(x) for x in range(5, 10)] + [oc_often(p) for p in (1, 2, 3, 9)]
        told = ask([oc_start(2, 2), oc_heard(first[2]), oc_heard(second[1])] + then)[3:]
        for order in itertools.permutations(first + second):
            rows = [oc_start(2, 2)]
            for message in order:
                rows += [oc_heard(message), oc_heard(message)]
            self.assertEqual(ask(rows + [oc_heard(message) for message in order] + then)[-len(then):], told)

    def test_answers_in_any_order(self):
        readings = {}
        messages = []
        for station in range(3):
            for length in (0, 1, 4, 9):
                messages.append(said(station, 2, [5] * length))
                readings[len(messages) - 1] = (station, length)
        source = random.Random(61)
        for turn in range(20):
            order = [source.randrange(len(messages)) for step in range(40)]
            most = [0, 0, 0]
            expected = []
            for which in order:
                station, length = readings[which]
                expected.append(1 if length > most[station] else 0)
                most[station] = max(most[station], length)
            self.assertEqual(heard(2, 3, [messages[which] for which in order]), expected)


if __name__ == "__main__":
    unittest.main()
