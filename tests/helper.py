"""Calls written by name, and the answers of the program taken apart again."""

import struct

from gaugeboard.board import answers

NO_DOUBLE = 0x7FF8000000000000
NO_SINGLE = 0x7FC00000
ALL = 2 ** 64 - 1
INT_MIN = -2 ** 31
INT_MAX = 2 ** 31 - 1

# Where each number stands in how.
A, B, W, L0, L1, L2, L3, H, LO, K = range(10)


def double(number):
    """A float's bits."""
    return struct.unpack("<Q", struct.pack("<d", number))[0]


def number_of(bits):
    """The float with these bits."""
    return struct.unpack("<d", struct.pack("<Q", bits))[0]


def single(number):
    """The bits of a float made a single."""
    return struct.unpack("<I", struct.pack("<f", number))[0]


def how(a=1.0, b=0.0, w=1.0, limits=(-2.0, -1.0, 1.0, 2.0), h=0.0, lo=0.0, k=1.0):
    return [double(number) for number in (a, b, w, *limits, h, lo, k)]


def how_with(place, bits):
    """An ordinary how with the number at one place given as bits."""
    row = how()
    row[place] = bits
    return row


def new():
    return [0]


def put(g, kind, place, row):
    """gb_set."""
    return [1, g, kind, place, len(row), *row]


def frame(which, row, time=0):
    return [2, which, time, len(row), *row]


def tell(which, form):
    return [3, which, form]


def raw(which, form):
    return [4, which, form]


def dial(which):
    return [5, which]


def point(g, y):
    return [6, g, y]


def points(which, y, row):
    """gb_points; y is a dict of some gauges' doubles' bits, the others' are 0."""
    return [7, which, 64, *[y.get(g, 0) for g in range(64)], len(row), *row]


def states():
    return [8]


def events(most=256):
    return [9, most]


def lost():
    return [10]


def trace(g, n):
    return [11, g, n]


def sums(g, n):
    return [12, g, n]


def clear(which):
    return [13, which]


def event(time, value, g, before, now):
    """The three numbers of an event."""
    return [time, double(value), g + 256 * before + 65536 * now]


def split(given, count):
    """The answers to so many calls, a list each."""
    rows = []
    at = 0
    while at < len(given):
        length = given[at]
        row = given[at + 1:at + 1 + length]
        if type(length) is not int or len(row) != length or length < 1:
            raise AssertionError(f"an answer is not as long as it says, at {at}")
        rows.append(row)
        at += 1 + length
    if len(rows) != count:
        raise AssertionError(f"{len(rows)} answers to {count} calls")
    return rows


def run(*calls):
    """The answers to these calls, a list each."""
    return split(answers([number for call in calls for number in call]), len(calls))


def last(*calls):
    """The answer to the last of these calls."""
    return run(*calls)[-1]


def bytes_of(number, kind):
    """The bytes of a number as a kind has them, by Python's own means."""
    size = 1 << (kind // 2 % 4)
    order = "big" if kind >= 8 else "little"
    return list(number.to_bytes(size, order, signed=kind % 2 == 1))


def bounds(kind):
    """The lowest and the highest number of a kind."""
    bits = 8 << (kind // 2 % 4)
    if kind % 2 == 1:
        return -2 ** (bits - 1), 2 ** (bits - 1) - 1
    return 0, 2 ** bits - 1
