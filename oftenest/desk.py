"""The calls, one behind another in a list, and their answers."""

from oftenest.station import Station, may_start

OS_START = 0
OS_READ = 1
OS_SAY = 2
# How many numbers each call takes up, its own number and its object among them.
LENGTHS = (4, 3, 2, 3)
BAD_START = -22


class Desk:
    def __init__(self):
        self.stations = [None, None, None, None]

    def answer(self, call):
        if call[0] == OS_START:
            return self.start_station(call[1], call[2], call[3])
        station = self.stations[call[1]]
        if call[0] == OS_READ:
            return station.read(call[2])
        if call[0] == OS_SAY:
            return station.say()
        # os_of is the only one left: LENGTHS lets no other number come this far.
        return station.tell(call[2])

    def start_station(self, place, me, k):
        if not may_start(me, k):
            return [BAD_START]
        self.stations[place] = Station(me, k)
        return [0]


def answers(calls):
    desk = Desk()
    given = []
    at = 0
    while at < len(calls):
        end = at + LENGTHS[calls[at]]
        numbers = desk.answer(calls[at:end])
        given.append(len(numbers))
        given.extend(numbers)
        at = end
    return given
