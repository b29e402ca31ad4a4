"""The kinds of whole numbers that gauges send."""


def is_kind(kind):
    return 0 <= kind <= 15


def byte_count(kind):
    return 1 << (kind // 2 % 4)


def has_sign(kind):
    return kind % 2 == 1


def highest_first(kind):
    return kind // 8 == 1


def lowest_of(kind):
    if has_sign(kind):
        return -(1 << (8 * byte_count(kind) - 1))
    return 0


def highest_of(kind):
    return lowest_of(kind) + (1 << (8 * byte_count(kind))) - 1


def held(number, kind):
    """The whole number of this kind that is nearest to number."""
    return max(lowest_of(kind), min(number, highest_of(kind)))


def number_at(frame, place, kind):
    """The number of this kind that stands at a place in a frame."""
    part = frame[place:place + byte_count(kind)]
    if not highest_first(kind):
        part = list(reversed(part))
    number = 0
    for byte in part:
        number = number * 256 + byte
    if number > highest_of(kind):
        number -= 1 << (8 * byte_count(kind))
    return number


def bytes_of(number, kind):
    """The bytes of a number that this kind has."""
    # A shift keeps the sign, so the lower bytes of a number below 0 are already those of two's complement.
    lowest_byte_first = [(number >> (8 * i)) % 256 for i in range(byte_count(kind))]
    if highest_first(kind):
        return list(reversed(lowest_byte_first))
    return lowest_byte_first
