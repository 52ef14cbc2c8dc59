"""What a station says, as the 216 bytes of a message, and what is taken from one."""

from oftenest.crc import crc32c
from oftenest.stream import MOST_READINGS, Stream, may_count

FORM = 1
MOST_STATIONS = 16
READINGS_PLACE = 4
WRONG_PLACE = 12
COUNTERS_PLACE = 20
COUNTER_SIZE = 12
CHECK_PLACE = 212


def low_first(number, size):
    return [(number >> (8 * place)) & 255 for place in range(size)]


def number_at(message, place, size):
    return sum([message[place + step] << (8 * step) for step in range(size)])


def message_of(me, stream):
    message = [FORM, me, stream.k, len(stream.counts)]
    message.extend(low_first(stream.readings, 8))
    message.extend(low_first(stream.wrong, 8))
    for x in sorted(stream.counts):
        message.extend(low_first(x, 4))
        message.extend(low_first(stream.counts[x], 8))
    # A message is as long with few counters as with 16.
    message.extend([0] * (CHECK_PLACE - len(message)))
    check = crc32c(message)
    message.extend(low_first(check, 4))
    return message


def station_of(message):
    return message[1]


def stream_of(message):
    stream = Stream(message[2])
    stream.readings = number_at(message, READINGS_PLACE, 8)
    stream.wrong = number_at(message, WRONG_PLACE, 8)
    stream.counts = dict(counters_of(message))
    return stream


def counters_end(message):
    return COUNTERS_PLACE + COUNTER_SIZE * message[3]


def counters_of(message):
    """Value and count of each counter, as they stand: in a message that isn't right a value may stand twice."""
    places = list(range(COUNTERS_PLACE, counters_end(message), COUNTER_SIZE))
    return [(number_at(message, place, 4), number_at(message, place + 4, 8)) for place in places]


def is_right(message):
    # The head goes first: with more counters told than there is room for, the others would look behind the end.
    return (head_is_right(message) and check_is_right(message) and counters_are_right(message)
            and rest_is_0(message) and adds_up(stream_of(message)))


def head_is_right(message):
    return (message[0] == FORM and message[1] < MOST_STATIONS
            and may_count(message[2]) and message[3] <= message[2])


def check_is_right(message):
    return number_at(message, CHECK_PLACE, 4) == crc32c(message[:CHECK_PLACE])


def counters_are_right(message):
    least = 0
    for x, count in counters_of(message):
        if x < least or count < 1 or count > MOST_READINGS:
            return False
        least = x + 1
    return True


def rest_is_0(message):
    return not any(message[counters_end(message):CHECK_PLACE])


def adds_up(stream):
    accounted = sum(stream.counts.values()) + (stream.k + 1) * stream.wrong
    return accounted <= stream.readings and stream.readings <= MOST_READINGS
