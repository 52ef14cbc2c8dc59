"""A station: who it is, and what it knows of its stream. Each call answers a list, the first number first."""

from oftenest.message import MOST_STATIONS, message_of
from oftenest.stream import MOST_READINGS, Stream, may_count

NO_ROOM = -28


def may_start_station(me, k):
    return me < MOST_STATIONS and may_count(k)


class Station:
    def __init__(self, me, k):
        self.me = me
        self.stream = Stream(k)

    def read(self, x):
        if self.stream.readings == MOST_READINGS:
            return [NO_ROOM]
        self.stream.take(x)
        return [0]

    def say(self):
        return [0] + message_of(self.me, self.stream)

    def tell(self, x):
        return self.stream.told(x)
