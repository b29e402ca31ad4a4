"""One gauge: what it is set to, and what its readings came to."""

from gaugeboard.doubles import STEP, is_measure, made_double, made_single, product, product_and_sum
from gaugeboard.doubles import quotient, steps_of, whole_made_double, whole_number
from gaugeboard.kinds import byte_count
from gaugeboard.states import FINE, state_after

TRACE_LENGTH = 256


def limits_in_order(limits):
    return limits[0] <= limits[1] <= limits[2] <= limits[3]


def how_is_right(how):
    """Whether ten doubles' bits are as a gauge must have them."""
    if not all([is_measure(bits) for bits in how]):
        return False
    steps = [steps_of(bits) for bits in how]
    weight_is_right = 0 < steps[2] <= 1 << STEP
    return weight_is_right and limits_in_order(steps[3:7]) and steps[7] >= 0 and steps[9] > 0


class Gauge:
    """A gauge that is set; its doubles are kept in steps (see doubles)."""

    def __init__(self, kind, place, how):
        steps = [steps_of(bits) for bits in how]
        self.kind = kind
        self.place = place
        self.scale = steps[0]
        self.offset = steps[1]
        self.weight = steps[2]
        self.limits = steps[3:7]
        self.slack = steps[7]
        self.dial_start = steps[8]
        self.dial_scale = steps[9]
        self.forget()

    def forget(self):
        """Be without readings, and fine."""
        self.has_reading = False
        self.last_number = 0
        self.value = 0
        self.smoothed = 0
        self.least = 0
        self.greatest = 0
        self.trace = []
        self.state = FINE

    def end_place(self):
        return self.place + byte_count(self.kind)

    def take_reading(self, number):
        """Take a reading: a whole number of the gauge's kind."""
        value = made_double(self.scale * whole_made_double(number) + self.offset, 1)
        if self.has_reading:
            self.smooth(value)
            self.least = min(self.least, value)
            self.greatest = max(self.greatest, value)
        else:
            self.smoothed = value
            self.least = value
            self.greatest = value
        self.has_reading = True
        self.last_number = number
        self.value = value
        self.add_to_trace(made_single(value))
        self.state = state_after(self.state, value, self.limits, self.slack)

    def smooth(self, value):
        difference = made_double(value - self.smoothed, 1)
        self.smoothed = product_and_sum(difference, self.weight, self.smoothed)

    def add_to_trace(self, single):
        self.trace.append(single)
        if len(self.trace) > TRACE_LENGTH:
            self.trace.pop(0)

    def dial(self):
        """Where the dial would stand, not yet held to what a dial has."""
        turn = made_double(self.value - self.dial_start, 1)
        return whole_number(product(turn, self.dial_scale))

    def number_for(self, value):
        """What the gauge would have to send for this value, not yet held to its kind."""
        difference = made_double(value - self.offset, 1)
        return whole_number(quotient(difference, self.scale))
