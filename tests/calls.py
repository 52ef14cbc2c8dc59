"""How the tests write calls, and take answers apart."""

from oftenest.desk import answers


def os_start(station, me, k):
    return [0, station, me, k]


def os_read(station, x):
    return [1, station, x]


def os_say(station):
    return [2, station]


def os_of(station, x):
    return [3, station, x]


def os_reads(station, values):
    return [os_read(station, x) for x in values]


def ask(rows):
    """The answers to the calls, a list for each call."""
    given = answers([number for row in rows for number in row])
    parts = []
    at = 0
    while at < len(given):
        parts.append(given[at + 1:at + 1 + given[at]])
        at += 1 + given[at]
    if at != len(given) or len(parts) != len(rows):
        raise AssertionError(f"{len(rows)} calls, but {given!r}")
    return parts
