"""A board of gauges, and the calls on it."""

from gaugeboard.call_reader import CallReader
from gaugeboard.doubles import double_bits, is_point, made_single, single_bits, single_made_double, steps_of
from gaugeboard.gauge import TRACE_LENGTH, Gauge, how_is_right
from gaugeboard.kinds import byte_count, bytes_of, held, is_kind, number_at
from gaugeboard.states import STATES
from gaugeboard.trace_sums import sums_of

GAUGES = 64
LONGEST_FRAME = 1024
MOST_EVENTS = 256
DIAL_KIND = 4
NO_DOUBLE = 0x7FF8000000000000
NO_SINGLE = 0x7FC00000


def gauges_in(which):
    """The numbers of the gauges in which, in order."""
    return [g for g in range(GAUGES) if (which >> g) % 2 == 1]


def is_gauge(g):
    return 0 <= g < GAUGES


def as_which(numbers):
    """The gauges with these numbers, each by its bit."""
    return sum([1 << g for g in numbers])


def told(gauge, form):
    """What gb_tell answers of a gauge; None is one without a reading."""
    if gauge is None:
        return NO_SINGLE if form == 1 else NO_DOUBLE
    if form == 0:
        return double_bits(gauge.value)
    if form == 1:
        return single_bits(made_single(gauge.value))
    if form == 2:
        return double_bits(gauge.smoothed)
    if form == 3:
        return double_bits(gauge.least)
    return double_bits(gauge.greatest)


def counted(gauges, numbers):
    """How many of these gauges have a reading (the others are None), then a number for each of them."""
    return [len([gauge for gauge in gauges if gauge is not None])] + numbers


def bytes_for(gauge, y):
    """1 if what a gauge has to send to stand at y was held to another, else 0; then its bytes."""
    asked = gauge.number_for(steps_of(y))
    sent = held(asked, gauge.kind)
    return [0 if sent == asked else 1] + bytes_of(sent, gauge.kind)


class Board:
    """What gb_new begins. Each method gb_.. answers a list: a refusal's number alone, or all that is answered."""

    def __init__(self):
        self.gauges = {}
        self.events = []
        self.lost = 0

    def with_readings(self, which):
        """The gauges in which, with None in the place of each that has no reading."""
        found = [self.gauges.get(g) for g in gauges_in(which)]
        return [gauge if gauge is not None and gauge.has_reading else None for gauge in found]

    def fits(self, g, length):
        """Whether gauge g is set and its bytes lie within so many."""
        return g in self.gauges and self.gauges[g].end_place() <= length

    def can_point(self, g):
        """Whether gauge g is set and what it sends moves its value."""
        return g in self.gauges and self.gauges[g].scale != 0

    def in_state(self, state):
        """The gauges that are set and in this state, as in which."""
        return as_which([g for g in self.gauges if self.gauges[g].state == state])

    def last_of_trace(self, g, n):
        """The last n of gauge g's trace, or None if there aren't so many; one that isn't set has none."""
        trace = self.gauges[g].trace if g in self.gauges else []
        if n > len(trace):
            return None
        return trace[len(trace) - n:]

    def keep_event(self, event):
        """Let an event wait: the three numbers that gb_events answers of it."""
        self.events.append(event)
        if len(self.events) > MOST_EVENTS:
            self.events.pop(0)
            self.lost += 1

    def gb_set(self, g, kind, place, how):
        if not is_gauge(g) or not is_kind(kind):
            return [-2]
        if place < 0 or place + byte_count(kind) > LONGEST_FRAME or not how_is_right(how):
            return [-2]
        self.gauges[g] = Gauge(kind, place, how)
        return [0]

    def gb_frame(self, which, time, frame):
        numbers = gauges_in(which)
        # All are looked at before the first reading comes: a refusal does nothing.
        if not all([self.fits(g, len(frame)) for g in numbers]):
            return [-3]
        for g in numbers:
            gauge = self.gauges[g]
            before = gauge.state
            gauge.take_reading(number_at(frame, gauge.place, gauge.kind))
            if gauge.state != before:
                self.keep_event((time, double_bits(gauge.value), g + 256 * before + 65536 * gauge.state))
        return [0]

    def gb_tell(self, which, form):
        if not 0 <= form <= 4:
            return [-2]
        return [0] + [told(gauge, form) for gauge in self.with_readings(which)]

    def gb_raw(self, which, form):
        if not 0 <= form <= 7:
            return [-2]
        gauges = self.with_readings(which)
        return counted(gauges, [0 if gauge is None else held(gauge.last_number, form) for gauge in gauges])

    def gb_dial(self, which):
        gauges = self.with_readings(which)
        return counted(gauges, [0 if gauge is None else held(gauge.dial(), DIAL_KIND) for gauge in gauges])

    def gb_point(self, g, y):
        if not is_gauge(g) or not is_point(y):
            return [-2]
        if not self.can_point(g):
            return [-3]
        gauge = self.gauges[g]
        return bytes_for(gauge, y) + [0] * (8 - byte_count(gauge.kind))

    def gb_points(self, which, y, frame):
        numbers = gauges_in(which)
        if not all([is_point(y[g]) for g in numbers]):
            return [-2]
        if not all([self.can_point(g) and self.fits(g, len(frame)) for g in numbers]):
            return [-3]
        filled = list(frame)
        others = 0
        for g in numbers:
            gauge = self.gauges[g]
            sent = bytes_for(gauge, y[g])
            others += sent[0]
            for i, byte in enumerate(sent[1:]):
                filled[gauge.place + i] = byte
        return [others] + filled

    def gb_states(self):
        with_reading = as_which([g for g in self.gauges if self.gauges[g].has_reading])
        return [0] + [self.in_state(state) for state in range(STATES)] + [with_reading]

    def gb_events(self, most):
        if not 0 <= most <= MOST_EVENTS:
            return [-2]
        oldest = self.events[:most]
        self.events = self.events[most:]
        given = [len(oldest)]
        for event in oldest:
            given.extend(event)
        return given

    def gb_lost(self):
        return [self.lost]

    def gb_trace(self, g, n):
        if not is_gauge(g) or not 0 <= n <= TRACE_LENGTH:
            return [-2]
        singles = self.last_of_trace(g, n)
        if singles is None:
            return [-3]
        return [0] + [single_bits(single) for single in singles]

    def gb_sums(self, g, n):
        if not is_gauge(g) or not 1 <= n <= TRACE_LENGTH:
            return [-2]
        singles = self.last_of_trace(g, n)
        if singles is None:
            return [-3]
        sums = sums_of([single_made_double(single) for single in singles])
        return [0] + [double_bits(number) for number in sums]

    def gb_clear(self, which):
        numbers = gauges_in(which)
        # All are looked at before the first is cleared: a refusal does nothing.
        if not all([g in self.gauges for g in numbers]):
            return [-3]
        for g in numbers:
            self.gauges[g].forget()
        return [0]


def answer(board, number, parts):
    """What a call other than gb_new answers; parts are its numbers, then its rows."""
    if number == 1:
        return board.gb_set(parts[0], parts[1], parts[2], parts[3])
    if number == 2:
        return board.gb_frame(parts[0], parts[1], parts[2])
    if number == 3:
        return board.gb_tell(parts[0], parts[1])
    if number == 4:
        return board.gb_raw(parts[0], parts[1])
    if number == 5:
        return board.gb_dial(parts[0])
    if number == 6:
        return board.gb_point(parts[0], parts[1])
    if number == 7:
        return board.gb_points(parts[0], parts[1], parts[2])
    if number == 8:
        return board.gb_states()
    if number == 9:
        return board.gb_events(parts[0])
    if number == 10:
        return board.gb_lost()
    if number == 11:
        return board.gb_trace(parts[0], parts[1])
    if number == 12:
        return board.gb_sums(parts[0], parts[1])
    return board.gb_clear(parts[0])


def answers(calls):
    """Do the calls on a new board; for each: how many numbers are answered, then these."""
    reader = CallReader(calls)
    board = Board()
    given = []
    while reader.has_more():
        number = reader.take_number()
        parts = reader.take_parts(number)
        if number == 0:
            board = Board()
            numbers = [0]
        else:
            numbers = answer(board, number, parts)
        given.append(len(numbers))
        given.extend(numbers)
    return given
