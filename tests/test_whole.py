"""All calls on four stations and the centre in one list, and what holds over the whole program."""

import random
import unittest

from oftenest.desk import answers
from tests.calls import (
    ask, oc_heard, oc_of, oc_often, oc_start, os_of, os_read, os_reads, os_say, os_start)
from tests.messages import made, said

MOST = 4294967295
WHO = (0, 3, 9, 15)
VALUES = ([5, 5, 6, 7, 5], [8, 8, 8], [6, MOST, 6, 0, 6, 6], [])


def flat(rows):
    return [number for row in rows for number in row]


def whole_list():
    rows = [os_start(place, WHO[place], 2) for place in range(4)] + [oc_start(2, 16)]
    for place in range(4):
        rows += os_reads(place, VALUES[place]) + [os_say(place), os_of(place, 6)]
    rows += [os_start(2, 16, 2), oc_start(0, 16), oc_start(17, 17)]
    for place in (2, 0, 3, 1, 0):
        rows += [oc_heard(said(WHO[place], 2, VALUES[place]))]
    broken = said(9, 2, VALUES[2] + [6])
    broken[30] ^= 4
    rows += [oc_heard(broken), oc_heard(said(9, 3, [6] * 9)), oc_heard(said(3, 2, [8]))]
    rows += [oc_of(x) for x in (0, 5, 6, 7, 8, MOST)] + [oc_often(p) for p in (0, 1, 2, 3, 4, 8, MOST)]
    rows += [os_read(1, 8), os_of(1, 8), os_say(1), oc_of(8)]
    return rows


class EightCalls(unittest.TestCase):
    def test_all_eight(self):
        given = ask(whole_list())
        self.assertEqual(given[:5], [[0]] * 5)
        at = 5
        last = ([0, 0, 1, 5], [0, 0, 0, 3], [1, 3, 4, 6], [0, 0, 0, 0])
        for place in range(4):
            end = at + len(VALUES[place])
            self.assertEqual(given[at:end], [[0]] * (end - at))
            self.assertEqual(given[end], [0] + said(WHO[place], 2, VALUES[place]))
            self.assertEqual(given[end + 1], last[place])
            at = end + 2
        self.assertEqual(given[at:at + 3], [[-22]] * 3)
        self.assertEqual(given[at + 3:at + 11], [[1], [1], [0], [1], [0], [-71], [-71], [0]])
        # Station 0 knows 5 (2) and wrong 1, station 3 knows 8 (3), station 9 knows 6 (3) and wrong 1: c is 2.
        self.assertEqual(given[at + 11:at + 17], [
            [0, 0, 4, 14], [0, 0, 4, 14], [1, 1, 5, 14], [0, 0, 4, 14], [1, 1, 5, 14], [0, 0, 4, 14]])
        none, both = [0] * 17, [2, 6, 8] + [0] * 14
        self.assertEqual(given[at + 17:at + 24], [[-22], none, none, none, none, none, both])
        self.assertEqual(given[at + 24:], [[0], [1, 4, 4, 4], [0] + said(3, 2, [8] * 4), [1, 1, 5, 14]])

    def test_the_same_list_twice(self):
        calls = flat(whole_list())
        first = answers(calls)
        answers(flat([oc_start(16, 3), oc_heard(made(0, 16, [(6, 9)])), os_start(1, 3, 4), os_read(1, 8)]))
        self.assertEqual(answers(calls), first)
        self.assertEqual(answers(calls), first)

    def test_the_list_handed_in_is_the_same_afterwards(self):
        calls = flat(whole_list())
        kept = list(calls)
        answers(calls)
        self.assertEqual(calls, kept)

    def test_the_list_is_not_changed_for_a_while_either(self):
        class Untouched(list):
            def refuse(self, *given):
                raise AssertionError("the list handed in was changed")

            append = extend = insert = pop = remove = clear = sort = reverse = refuse
            __setitem__ = __delitem__ = __iadd__ = __imul__ = refuse

        calls = flat(whole_list())
        self.assertEqual(answers(Untouched(calls)), answers(calls))

    def test_how_answers_stand(self):
        message = made(0, 3, [(5, 2), (9, 1)])
        calls = [4, 0, 3, 1] + [5, 0, 216] + message + [6, 0, 5] + [7, 0, 2] + [7, 0, 0] + [5, 0, 216] + [0] * 216
        calls += [7, 0, 4] + [4, 0, 0, 7]
        given = [1, 0] + [1, 1] + [4, 1, 2, 2, 3] + [17, 1, 5] + [0] * 15 + [1, -22] + [1, -71]
        given += [17, 2, 5, 9] + [0] * 14 + [1, -22]
        self.assertEqual(answers(calls), given)

    def test_kinds(self):
        given = answers(flat(whole_list()))
        self.assertIs(type(given), list)
        self.assertEqual({type(number) for number in given}, {int})

    def test_as_many_messages_as_a_list_holds(self):
        rows = [oc_start(16, 16)]
        for turn in range(135):
            rows.append(oc_heard(made(turn % 16, 16, [(x, turn + 1) for x in range(turn % 17)], readings=3000 + turn)))
        self.assertEqual(ask(rows), [[0]] + [[1]] * 135)

    def test_a_thousand_calls(self):
        messages = [made(station, 16, [(16 * station + x, x + 1) for x in range(16)]) for station in range(16)]
        rows = [oc_start(16, 16)] + [oc_heard(message) for message in messages]
        given = ask(rows + [oc_often(MOST)] * (1000 - len(rows)))
        self.assertEqual(given[17:], [given[17]] * 983)


class WhatHolds(unittest.TestCase):
    """Four stations read and say; of what they say messages are lost, doubled and late."""

    def stations_read(self, source, k, kinds):
        """Of each station what it read up to each message, and that message."""
        rows, read = [os_start(place, place, k) for place in range(4)], []
        so_far = [[], [], [], []]
        for turn in range(source.randint(0, 300)):
            place = source.randrange(4)
            if source.random() < 0.05:
                rows.append(os_say(place))
                read.append((place, list(so_far[place]), len(rows) - 1))
            else:
                x = min(source.randrange(kinds), source.randrange(kinds))
                rows.append(os_read(place, x))
                so_far[place].append(x)
        given = ask(rows)
        return [(place, values, given[at][1:]) for place, values, at in read]

    def check(self, k, kinds, order):
        rows = [oc_start(k, 4)] + [oc_heard(message) for place, values, message in order]
        given = ask(rows + [oc_of(x) for x in range(kinds)] + [oc_often(p) for p in range(1, k + 3)])[len(rows):]
        most = [[], [], [], []]
        for place, values, message in order:
            most[place] = max(most[place], values, key=len)
        read = most[0] + most[1] + most[2] + most[3]
        wrong = given[0][2] - given[0][1]
        self.assertLessEqual(wrong * (k + 1), len(read))
        self.assertLessEqual(sum(row[0] for row in given[:kinds]), k)
        for x in range(kinds):
            found, low, high, readings = given[x]
            self.assertEqual((readings, high - low, found), (len(read), wrong, 1 if low else 0))
            self.assertTrue(low <= read.count(x) <= high)
            if read.count(x) * (k + 1) > len(read):
                self.assertEqual(found, 1)
            if len(set(read)) <= k:
                self.assertEqual((low, high), (read.count(x), read.count(x)))
        for p in range(1, k + 3):
            row = given[kinds + p - 1]
            for x in row[1:1 + row[0]]:
                self.assertGreater(read.count(x) * p, len(read))
        return given

    def test_lost_doubled_and_late(self):
        source = random.Random(9)
        for turn in range(120):
            k = source.randint(1, 16)
            kinds = source.randint(1, 3 * k)
            sent = [row for row in self.stations_read(source, k, kinds) if source.random() < 0.8]
            order = sent + [row for row in sent if source.random() < 0.5]
            source.shuffle(order)
            self.assertEqual(self.check(k, kinds, order), self.check(k, kinds, sent))


if __name__ == "__main__":
    unittest.main()
