"""Point 3: os_say, the message byte by byte."""

import random
import unittest

from oftenest.crc import crc32c
from tests.calls import ask, os_of, os_reads, os_say, os_start

MOST = 4294967295


def said(me, k, values):
    return ask([os_start(0, me, k)] + os_reads(0, values) + [os_say(0)])[-1]


def number(octets):
    return int.from_bytes(bytes(octets), "little")


class Say(unittest.TestCase):
    """The four bytes of each check were worked out apart from the program, by long division."""

    def test_without_readings(self):
        self.assertEqual(said(15, 16, []), [0] + [1, 15, 16, 0] + [0] * 208 + [27, 136, 189, 132])
        self.assertEqual(said(0, 1, []), [0] + [1, 0, 1, 0] + [0] * 208 + [58, 81, 136, 157])

    def test_with_some_counters(self):
        expected = [1, 9, 3, 3]
        expected += [6, 0, 0, 0, 0, 0, 0, 0]
        expected += [0, 0, 0, 0, 0, 0, 0, 0]
        expected += [7, 0, 0, 0] + [3, 0, 0, 0, 0, 0, 0, 0]
        expected += [2, 1, 0, 0] + [1, 0, 0, 0, 0, 0, 0, 0]
        expected += [255, 255, 255, 255] + [2, 0, 0, 0, 0, 0, 0, 0]
        expected += [0] * (13 * 12)
        expected += [104, 79, 226, 209]
        self.assertEqual(said(9, 3, [MOST, 7, 7, 258, MOST, 7]), [0] + expected)

    def test_behind_counters_that_went(self):
        expected = [1, 2, 3, 1]
        expected += [46, 1, 0, 0, 0, 0, 0, 0]
        expected += [1, 0, 0, 0, 0, 0, 0, 0]
        expected += [7, 0, 0, 0] + [42, 1, 0, 0, 0, 0, 0, 0]
        expected += [0] * (15 * 12)
        expected += [173, 114, 135, 143]
        self.assertEqual(said(2, 3, [7] * 299 + [8, 9, 10]), [0] + expected)

    def test_wrong_of_two_bytes_and_no_counter(self):
        expected = [1, 4, 1, 0]
        expected += [230, 3, 0, 0, 0, 0, 0, 0]
        expected += [243, 1, 0, 0, 0, 0, 0, 0]
        expected += [0] * (16 * 12)
        expected += [36, 52, 31, 188]
        self.assertEqual(said(4, 1, [4, 5] * 499), [0] + expected)

    def test_with_sixteen_counters(self):
        values = [place * 16909060 for place in range(16)]
        expected = [1, 5, 16, 16]
        expected += [17, 0, 0, 0, 0, 0, 0, 0]
        expected += [0, 0, 0, 0, 0, 0, 0, 0]
        for place in range(16):
            expected += [4 * place, 3 * place, 2 * place, place]
            expected += [2 if place == 3 else 1, 0, 0, 0, 0, 0, 0, 0]
        expected += [244, 130, 69, 55]
        self.assertEqual(said(5, 16, values + [values[3]]), [0] + expected)
        self.assertEqual(said(5, 16, [values[3]] + values[::-1]), [0] + expected)

    def test_tells_me_and_not_the_place(self):
        given = ask([os_start(3, 11, 2), os_say(3)])[-1]
        self.assertEqual(given, said(11, 2, []))
        self.assertEqual(given[2], 11)

    def test_saying_changes_nothing(self):
        rows = [os_start(0, 1, 2)] + os_reads(0, [5, 6, 5]) + [os_say(0), os_say(0), os_of(0, 5)]
        given = ask(rows)
        self.assertEqual(given[-3], given[-2])
        self.assertEqual(given[-1], [1, 2, 2, 3])

    def test_tells_what_os_of_tells(self):
        source = random.Random(3)
        for k in range(1, 17):
            values = [source.choice((source.randrange(3 * k), MOST - source.randrange(k))) for turn in range(150)]
            rows = [os_start(0, 15 - k % 16, k)] + os_reads(0, values) + [os_say(0)]
            message = ask(rows)[-1][1:]
            self.assertEqual(len(message), 216)
            self.assertTrue(all(0 <= octet <= 255 for octet in message))
            told = {}
            for place in range(20, 20 + 12 * message[3], 12):
                told[number(message[place:place + 4])] = number(message[place + 4:place + 12])
            self.assertEqual(len(told), message[3])
            self.assertEqual(list(told), sorted(told))
            self.assertEqual(set(message[20 + 12 * message[3]:212]) - {0}, set())
            for x in sorted(set(values)):
                low = told.get(x, 0)
                expected = [1 if x in told else 0, low, low + number(message[12:20]), number(message[4:12])]
                self.assertEqual(ask(rows + [os_of(0, x)])[-1], expected)
            self.assertEqual(number(message[212:]), crc32c(message[:212]))


class Check(unittest.TestCase):
    """Well-known examples of CRC-32C."""

    def test_known(self):
        self.assertEqual(crc32c([]), 0)
        self.assertEqual(crc32c(list(b"123456789")), 0xE3069283)
        self.assertEqual(crc32c([0] * 32), 0x8A9136AA)
        self.assertEqual(crc32c([255] * 32), 0x62A8AB43)
        self.assertEqual(crc32c(list(range(32))), 0x46DD794E)


if __name__ == "__main__":
    unittest.main()
