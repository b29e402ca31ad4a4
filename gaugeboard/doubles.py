"""Doubles and singles, without rounding but where it is asked for.

Every double is a whole multiple of 2^-1074, its smallest step, and is kept
here as how many of these steps it is. So sums, products and comparisons are
exact by themselves, and a 0 has no sign. A single is kept likewise, in its own
steps of 2^-149. Numbers too large for them are not looked at: nothing that is
made a single reaches 2^125, and nothing that is made a double 2^260.
"""

STEP = 1074
SINGLE_STEP = 149
DOUBLE_DIGITS = 53
SINGLE_DIGITS = 24
# The exponents' fields of 2^-60, 2^60 and 2^125.
SMALLEST_MEASURE = 963
BEYOND_MEASURES = 1083
BEYOND_POINTS = 1148


def nearest_whole(top, below):
    """The whole number nearest to top / below (below is above 0), of two the even one."""
    whole = top // below
    rest = 2 * (top - whole * below)
    if rest > below or (rest == below and whole % 2 == 1):
        return whole + 1
    return whole


def nearest_of_digits(top, below, digits):
    """The nearest to top / below of those whole numbers that need so many binary digits, but for zeros at the end."""
    spare = max(0, (abs(top) // below).bit_length() - digits)
    return nearest_whole(top, below << spare) << spare


def made_double(top, below):
    """The steps of the double that is nearest to top / below steps."""
    return nearest_of_digits(top, below, DOUBLE_DIGITS)


def whole_made_double(number):
    """A whole number made a double, as the whole number that this is."""
    return nearest_of_digits(number, 1, DOUBLE_DIGITS)


def made_single(steps):
    """A double made a single, in a single's steps."""
    return nearest_of_digits(steps, 1 << (STEP - SINGLE_STEP), SINGLE_DIGITS)


def single_made_double(single):
    """The steps of the double that a single is, from a single's steps."""
    return single << (STEP - SINGLE_STEP)


def product(first, second):
    """Two doubles multiplied, and that made a double."""
    return made_double(first * second, 1 << STEP)


def product_and_sum(first, second, third):
    """first times second, plus third: all that exactly, then made a double."""
    return made_double(first * second + (third << STEP), 1 << STEP)


def quotient(first, second):
    """first / second (which is not 0) made a double."""
    if second < 0:
        return made_double(-first << STEP, -second)
    return made_double(first << STEP, second)


def whole_number(steps):
    """The whole number of a double."""
    return nearest_whole(steps, 1 << STEP)


def bits_of(steps, digits, width):
    """The bits of a number that has so many digits, in so many bits."""
    size = abs(steps)
    shift = max(0, size.bit_length() - digits)
    # The highest digit is not written, but adds 1 to the exponent's field: so small ones need no case of their own.
    bits = (shift << (digits - 1)) + (size >> shift)
    if steps < 0:
        return bits + (1 << (width - 1))
    return bits


def double_bits(steps):
    return bits_of(steps, DOUBLE_DIGITS, 64)


def single_bits(steps):
    return bits_of(steps, SINGLE_DIGITS, 32)


def exponent_field(bits):
    return (bits >> 52) % 2048


def steps_of(bits):
    """The steps of the double with these bits, which must be a number's."""
    field = exponent_field(bits)
    steps = bits % (1 << 52)
    if field > 0:
        steps = (steps + (1 << 52)) << (field - 1)
    if bits >> 63 == 1:
        return -steps
    return steps


def is_measure(bits):
    return bits == 0 or SMALLEST_MEASURE <= exponent_field(bits) < BEYOND_MEASURES


def is_point(bits):
    """Whether these are the bits of a number of a magnitude below 2^125."""
    return exponent_field(bits) < BEYOND_POINTS
