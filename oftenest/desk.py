"""The calls, one behind another in a list, and their answers."""

from oftenest.centre import Centre, may_start_centre
from oftenest.station import Station, may_start_station

OS_START = 0
OS_READ = 1
OS_SAY = 2
OS_OF = 3
OC_START = 4
OC_HEARD = 5
OC_OF = 6
# How many numbers each call takes up, its own number and its object among them; of oc_heard the message and its
# count too.
LENGTHS = (4, 3, 2, 3, 4, 219, 3, 3)
BAD_START = -22


class Desk:
    def __init__(self):
        self.stations = [None, None, None, None]
        self.centre = None

    def answer(self, call):
        if call[0] <= OS_OF:
            return self.answer_of_station(call)
        return self.answer_of_centre(call)

    def answer_of_station(self, call):
        if call[0] == OS_START:
            return self.start_station(call[1], call[2], call[3])
        station = self.stations[call[1]]
        if call[0] == OS_READ:
            return station.read(call[2])
        if call[0] == OS_SAY:
            return station.say()
        return station.tell(call[2])

    def answer_of_centre(self, call):
        if call[0] == OC_START:
            return self.start_centre(call[2], call[3])
        if call[0] == OC_HEARD:
            return self.centre.hear(call[3:])
        if call[0] == OC_OF:
            return self.centre.tell(call[2])
        # oc_often is the only one left: LENGTHS lets no other number come this far.
        return self.centre.often(call[2])

    def start_station(self, place, me, k):
        if not may_start_station(me, k):
            return [BAD_START]
        self.stations[place] = Station(me, k)
        return [0]

    def start_centre(self, k, stations):
        if not may_start_centre(k, stations):
            return [BAD_START]
        self.centre = Centre(k, stations)
        return [0]


def answers(calls):
    desk = Desk()
    given = []
    at = 0
    while at < len(calls):
        end = at + LENGTHS[calls[at]]
        numbers = desk.answer(calls[at:end])
        given.append(len(numbers))
        given.extend(numbers)
        at = end
    return given
