"""The check at the end of a message: CRC-32C."""

POLYNOMIAL = 0x82F63B78
ONES = 0xFFFFFFFF


def crc32c(octets):
    rest = ONES
    for octet in octets:
        rest = rest ^ octet
        for step in range(8):
            if rest & 1 == 1:
                rest = (rest >> 1) ^ POLYNOMIAL
            else:
                rest = rest >> 1
    return rest ^ ONES
