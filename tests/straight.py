"""What the tests share: calls written as numbers, answers taken apart, and the words reckoned straight."""

from fractions import Fraction

from steadyweight.pan import answers

LOW = -8388608
HIGH = 8388607
NOTHING = [0, 0, 0, 0, 0, 0]
FACTORS = list(range(1, 33)) + list(range(31, 0, -1))


def start(zero=0, span=1000, most=1000, window=1):
    return [0, zero, span, most, window]


def feed(numbers=()):
    return [1, len(numbers)] + list(numbers)


def ask(*calls):
    """The answer to each call of one line, taken apart by the counts ahead of them."""
    line = []
    for call in calls:
        line.extend(call)
    given = answers(line)
    parted = []
    at = 0
    while at < len(given):
        parted.append(given[at + 1:at + 1 + given[at]])
        if len(parted[-1]) != given[at] or given[at] < 1:
            raise AssertionError(f"a count that is not kept, at {at} of {given}")
        at += 1 + given[at]
    if len(parted) != len(calls):
        raise AssertionError(f"{len(calls)} calls, {len(parted)} answers")
    return parted


def told(settings, readings):
    """The five numbers after these readings, fed in as few pieces as may be, without the 0 ahead."""
    pieces = [feed(readings[at:at + 1024]) for at in range(0, len(readings), 1024)]
    given = ask(start(*settings), *pieces)
    if [answer[0] for answer in given] != [0] * len(given):
        raise AssertionError(f"a refusal in {given}")
    return given[-1][1:]


def nearest(exact):
    """The whole number nearest to a fraction, of two the greater."""
    below = exact.numerator // exact.denominator
    return below + 1 if (below + 1) - exact <= exact - below else below


def smooth_at(readings, end):
    """The smooth one of the 63 readings that stand ahead of end."""
    return sum(factor * reading for factor, reading in zip(FACTORS, readings[end - 63:end], strict=True))


def weight_by_words(smooth, zero, span, most):
    return nearest(Fraction((smooth - 1024 * zero) * most, 1024 * span))


class Straight:
    """The document's words, with all readings kept and all reckoned anew at each feed."""

    def __init__(self):
        self.settings = None
        self.readings = None

    def start(self, zero, span, most, window):
        if zero not in range(-4194304, 4194304 + 1) or span not in range(1000, 8388608 + 1):
            return [-22]
        if most not in range(100, 100000 + 1) or window not in range(1, 1048576 + 1):
            return [-22]
        self.settings = (zero, span, most, window)
        self.readings = []
        return [0]

    def feed(self, numbers):
        if self.settings is None:
            return [-11]
        if len(numbers) > 1024 or any(number < LOW or number > HIGH for number in numbers):
            return [-22]
        self.readings.extend(numbers)
        return [0] + five_by_words(self.settings, self.readings)

    def take(self, call):
        return self.start(*call[1:]) if call[0] == 0 else self.feed(call[2:])


def five_by_words(settings, readings):
    zero, span, most, window = settings
    if len(readings) < 94:
        return [0, 0, 0, 0, 0]
    smooth = [smooth_at(readings, len(readings) - back) for back in range(32)]
    weight = weight_by_words(smooth[0], zero, span, most)
    still = max(smooth) <= min(smooth) + 1024 * window
    return [weight, 1, int(still), int(weight < -20), int(weight > most + 9)]


def by_words(*calls):
    straight = Straight()
    return [straight.take(call) for call in calls]


def draw_settings(draw):
    """Settings over their whole ranges, their ends often among them."""
    return (
        draw.choice([-4194304, 4194304, 0, draw.randint(-4194304, 4194304), draw.randint(-1000, 1000)]),
        draw.choice([1000, 8388608, draw.randint(1000, 8388608), draw.randint(1000, 5000)]),
        draw.choice([100, 100000, draw.randint(100, 100000)]),
        draw.choice([1, 1048576, draw.randint(1, 1048576), draw.randint(1, 1000)]),
    )


def draw_readings(draw, how_many):
    """Readings that tremble little, or much, or lie at their ends."""
    middle = draw.choice([0, draw.randint(LOW, HIGH), draw.randint(-1000, 1000), LOW, HIGH])
    reach = draw.choice([0, 1, 50, 5000, 1000000, 16777215])
    return [min(HIGH, max(LOW, middle + draw.randint(-reach, reach))) for _ in range(how_many)]


def draw_cuts(draw, numbers):
    """The same numbers in pieces, some of them empty."""
    pieces = []
    at = 0
    while at < len(numbers):
        length = draw.choice([0, 1, 2, 31, 32, 33, 62, 63, 64, 93, 94, draw.randint(0, 200)])
        pieces.append(numbers[at:at + length])
        at += length
    return pieces
