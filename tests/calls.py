"""How the tests write calls, and take answers apart."""

from oftenest.desk import answers


def os_start(station, me, k):
    return [0, station, me, k]


def os_read(station, x):
    return [1, station, x]


def os_say(station):
    return [2, station]


def os_of(station, x):
    return [3, station, x]


def os_reads(station, values):
    return [os_read(station, x) for x in values]


def oc_start(k, stations):
    return [4, 0, k, stations]


def oc_heard(message):
    return [5, 0, len(message)] + message


def oc_of(x):
    return [6, 0, x]


def oc_often(p):
    return [7, 0, p]


def ask(rows):
    """The answers to the calls, a list for each call."""
    calls = [number for row in rows for number in row]
    if len(rows) > 1000 or len(calls) > 30000:
        raise AssertionError(f"{len(rows)} calls of {len(calls)} numbers are more than a list may hold")
    given = answers(calls)
    parts = []
    at = 0
    while at < len(given):
        parts.append(given[at + 1:at + 1 + given[at]])
        at += 1 + given[at]
    if at != len(given) or len(parts) != len(rows):
        raise AssertionError(f"{len(rows)} calls, but {given!r}")
    return parts
