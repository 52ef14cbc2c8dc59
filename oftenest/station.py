"""A station: who it is, and what it knows of its stream. Each call answers a list, the first number first."""

from oftenest.message import message_of
from oftenest.stream import Stream

MOST_ME = 15
MOST_COUNTERS = 16
MOST_READINGS = 4294967295
NO_ROOM = -28


def may_start(me, k):
    return me <= MOST_ME and 1 <= k and k <= MOST_COUNTERS


class Station:
    def __init__(self, me, k):
        self.me = me
        self.stream = Stream(k)

    def read(self, x):
        if self.stream.readings == MOST_READINGS:
            return [NO_ROOM]
        self.stream.take(x)
        return [0]

    def say(self):
        return [0] + message_of(self.me, self.stream)

    def tell(self, x):
        found = 1 if self.stream.has_counter(x) else 0
        return [found] + self.stream.told(x)
