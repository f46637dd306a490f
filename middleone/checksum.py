"""CRC-32C of a list of bytes."""

POLYNOMIAL = 0x82F63B78
ALL_ONES = 0xFFFFFFFF


def with_byte(check, byte):
    """The check that is under way, one byte further."""
    rest = check ^ byte
    for bit in range(8):
        if rest % 2 == 1:
            rest = (rest >> 1) ^ POLYNOMIAL
        else:
            rest = rest >> 1
    return rest


def crc32c(numbers):
    """CRC-32C of numbers, each from 0 to 255."""
    check = ALL_ONES
    for byte in numbers:
        check = with_byte(check, byte)
    return check ^ ALL_ONES
