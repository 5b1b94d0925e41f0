"""Weight from readings: the calls on one object come in as one list, what they answer goes back as one list."""

START = 0

NOT_BEGUN = -11
OUT_OF_RANGE = -22

LEAST_READING = -8388608
GREATEST_READING = 8388607
LONGEST_FEED = 1024

# The hum comes round every so many readings.
ROUND = 32
# The first smooth one takes 63 readings, the 31 behind it one more each.
READY_FROM = 94

MOST_BELOW = -20
MOST_ABOVE = 9


def settings_fit(zero, span, most, window):
    if not -4194304 <= zero <= 4194304:
        return False
    if not 1000 <= span <= 8388608:
        return False
    if not 100 <= most <= 100000:
        return False
    return 1 <= window <= 1048576


def are_readings(numbers):
    for number in numbers:
        if not LEAST_READING <= number <= GREATEST_READING:
            return False
    return True


def sums_over_a_round(numbers):
    return [sum(numbers[first:first + ROUND]) for first in range(len(numbers) - ROUND + 1)]


def smooth_ones(readings):
    # Summed twice over, a reading counts 1, 2 .. 32 .. 2, 1 times; and a hum is gone after the first time.
    return sums_over_a_round(sums_over_a_round(readings))


def weight_of(smooth, zero, span, most):
    # The half is added ahead of rounding down: so of two nearest numbers it's the greater, below 0 too.
    return ((smooth - 1024 * zero) * most + 512 * span) // (1024 * span)


class Scale:
    def __init__(self):
        self.begun = False
        self.zero = 0
        self.span = 0
        self.most = 0
        self.window = 0
        self.latest = []

    def start(self, zero, span, most, window):
        if not settings_fit(zero, span, most, window):
            return [OUT_OF_RANGE]
        self.begun = True
        self.zero = zero
        self.span = span
        self.most = most
        self.window = window
        self.latest = []
        return [0]

    def feed(self, numbers):
        if not self.begun:
            return [NOT_BEGUN]
        if len(numbers) > LONGEST_FEED or not are_readings(numbers):
            return [OUT_OF_RANGE]
        # What is told never looks back farther than this.
        self.latest = (self.latest + numbers)[-READY_FROM:]
        return [0] + self.told()

    def told(self):
        if len(self.latest) < READY_FROM:
            return [0, 0, 0, 0, 0]
        smooth = smooth_ones(self.latest)
        weight = weight_of(smooth[-1], self.zero, self.span, self.most)
        still = 1 if max(smooth) - min(smooth) <= 1024 * self.window else 0
        under = 1 if weight < MOST_BELOW else 0
        over = 1 if weight > self.most + MOST_ABOVE else 0
        return [weight, 1, still, under, over]


def answers(calls):
    scale = Scale()
    given = []
    at = 0
    while at < len(calls):
        if calls[at] == START:
            answer = scale.start(calls[at + 1], calls[at + 2], calls[at + 3], calls[at + 4])
            at = at + 5
        else:
            end = at + 2 + calls[at + 1]
            answer = scale.feed(calls[at + 2:end])
            at = end
        given.append(len(answer))
        given.extend(answer)
    return given
