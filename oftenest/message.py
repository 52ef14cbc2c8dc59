"""What a station says, as the 216 bytes of a message."""

from oftenest.crc import crc32c

FORM = 1
CHECK_PLACE = 212


def low_first(number, size):
    return [(number >> (8 * place)) & 255 for place in range(size)]


def message_of(me, stream):
    message = [FORM, me, stream.k, len(stream.counts)]
    message.extend(low_first(stream.readings, 8))
    message.extend(low_first(stream.wrong, 8))
    for x in sorted(stream.counts):
        message.extend(low_first(x, 4))
        message.extend(low_first(stream.counts[x], 8))
    # A message is as long with few counters as with 16.
    message.extend([0] * (CHECK_PLACE - len(message)))
    check = crc32c(message)
    message.extend(low_first(check, 4))
    return message
