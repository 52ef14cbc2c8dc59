"""Messages made by hand, right and wrong, apart from the program's own way of making them."""

from tests.calls import ask, os_reads, os_say, os_start


def low_first(number, size):
    return list(number.to_bytes(size, "little"))


def check_of(octets):
    """CRC-32C by long division, from the high bit, the bits of each byte turned round."""
    bits = [octet >> place & 1 for octet in octets for place in range(8)] + [0] * 32
    for place in range(32):
        bits[place] ^= 1
    divisor = [int(sign) for sign in f"{0x11EDC6F41:b}"]
    for place in range(len(bits) - 32):
        if bits[place]:
            for step in range(33):
                bits[place + step] ^= divisor[step]
    return sum((1 - bit) << place for place, bit in enumerate(bits[-32:]))


def checked(octets):
    """The 212 bytes with their right check behind them."""
    if len(octets) != 212:
        raise AssertionError(f"{len(octets)} bytes")
    return octets + low_first(check_of(octets), 4)


def made(station, k, counters, readings=None, wrong=0, form=1, how_many=None):
    """A message with a right check, whatever else is wrong; the readings are just enough unless told."""
    if readings is None:
        readings = sum(count for x, count in counters) + (k + 1) * wrong
    octets = [form, station, k, len(counters) if how_many is None else how_many]
    octets += low_first(readings, 8) + low_first(wrong, 8)
    for x, count in counters:
        octets += low_first(x, 4) + low_first(count, 8)
    return checked(octets + [0] * (212 - len(octets)))


def with_byte(message, place, octet):
    """The message with another byte, and the check right for that."""
    return checked(message[:place] + [octet] + message[place + 1:212])


def said(me, k, values):
    """What a station says behind these readings."""
    return ask([os_start(0, me, k)] + os_reads(0, values) + [os_say(0)])[-1][1:]
