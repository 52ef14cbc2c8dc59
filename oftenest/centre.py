"""The centre: what it heard of each station, put together. Each call answers a list, the first number first."""

from oftenest.message import MOST_STATIONS, is_right, station_of, stream_of
from oftenest.stream import MOST_COUNTERS, Stream, may_count, put_together

NOT_TAKEN = -71
NO_PART = -22


def may_start_centre(k, stations):
    return may_count(k) and 1 <= stations and stations <= MOST_STATIONS


class Centre:
    def __init__(self, k, stations):
        self.k = k
        self.heard = [Stream(k) for place in range(stations)]

    def hear(self, message):
        if not is_right(message):
            return [NOT_TAKEN]
        place = station_of(message)
        stream = stream_of(message)
        if stream.k != self.k or place >= len(self.heard):
            return [NOT_TAKEN]
        # A station that wasn't heard stands as a stream without readings, so a message that tells none is not kept.
        if stream.readings <= self.heard[place].readings:
            return [0]
        self.heard[place] = stream
        return [1]

    def together(self):
        known = Stream(self.k)
        for stream in self.heard:
            known = put_together(known, stream)
        return known

    def tell(self, x):
        return self.together().told(x)

    def often(self, p):
        if p == 0:
            return [NO_PART]
        found = self.together().oftener(p)
        return [len(found)] + found + [0] * (MOST_COUNTERS - len(found))
