"""What a feed tells from the 94th reading on: weight, still, under, over."""

import random
import unittest

from straight import (
    FACTORS, HIGH, LOW, ask, by_words, draw_cuts, draw_readings, draw_settings, feed, five_by_words,
    smooth_at, start, told, weight_by_words,
)


def weight(settings, readings):
    return told(settings, readings)[0]


class Weight(unittest.TestCase):
    def test_factors_of_the_words(self):
        self.assertEqual(len(FACTORS), 63)
        self.assertEqual((FACTORS[0], FACTORS[30], FACTORS[31], FACTORS[32], FACTORS[62]), (1, 31, 32, 31, 1))
        self.assertEqual(sum(FACTORS), 1024)

    def test_each_factor_alone(self):
        # One reading at its end among zeros: so large that each factor gives another weight.
        settings = (0, 1000, 100000, 1)
        seen = {}
        for place in range(94):
            readings = [0] * 94
            readings[place] = HIGH
            factor = FACTORS[place - 31] if place >= 31 else 0
            wanted = weight_by_words(factor * HIGH, 0, 1000, 100000)
            self.assertEqual(weight(settings, readings), wanted)
            seen[factor] = wanted
        self.assertEqual(len(set(seen.values())), 33)

    def test_of_the_last_63_alone(self):
        for ahead in (LOW, HIGH, 12345):
            for how_many in (31, 32, 100, 961):
                self.assertEqual(weight((0, 1000, 1000, 1), [ahead] * how_many + [7] * 63), 7)

    def test_half_way(self):
        # With a tenth of an interval each, 5 is half-way; the greater is told, above and below 0.
        settings = (0, 1000, 100, 1)
        for number, wanted in (
            (4, 0), (5, 1), (6, 1), (14, 1), (15, 2), (16, 2), (25, 3), (35, 4), (45, 5),
            (-4, 0), (-5, 0), (-6, -1), (-14, -1), (-15, -1), (-16, -2), (-25, -2), (-35, -3), (-45, -4),
        ):
            with self.subTest(number=number):
                self.assertEqual(weight(settings, [number] * 94), wanted)

    def test_just_beside_half_way(self):
        # The last reading counts once: so the smooth one is one more or one less than half-way.
        settings = (0, 1000, 100, 1)
        for tens in range(-30, 30):
            half = 10 * tens + 5
            self.assertEqual(weight(settings, [half] * 93 + [half - 1]), tens)
            self.assertEqual(weight(settings, [half] * 94), tens + 1)
            self.assertEqual(weight(settings, [half] * 93 + [half + 1]), tens + 1)

    def test_half_way_with_many_settings(self):
        draw = random.Random(1)
        for _ in range(300):
            zero = draw.randint(-4194304, 4194304)
            span = draw.choice([draw.randint(1000, 4000), draw.randint(1000, 100000)])
            below = draw.randint(-3000, 3000)
            # most and span alike make an interval of each reading; half-way comes from 512 more in the smooth one.
            readings = [zero + below] * 93 + [zero + below + 512]
            self.assertEqual(weight((zero, span, span, 1), readings), below + 1)
            readings[-1] -= 1
            self.assertEqual(weight((zero, span, span, 1), readings), below)

    def test_zero_below_0(self):
        for zero in (-1, -999, -4194303, -4194304):
            self.assertEqual(weight((zero, 1000, 1000, 1), [0] * 94), -zero)
            self.assertEqual(weight((zero, 1000, 1000, 1), [zero] * 94), 0)
            self.assertEqual(weight((zero, 1000, 1000, 1), [zero - 3] * 94), -3)
            self.assertEqual(weight((zero, 1000, 100, 1), [zero - 5] * 94), 0)
            self.assertEqual(weight((zero, 1000, 100, 1), [zero + 5] * 94), 1)

    def test_zero_and_span_on_the_pan(self):
        for zero in (-4194304, -1, 0, 1, 4194304):
            for span in (1000, 4194303):
                for most in (100, 3000, 100000):
                    self.assertEqual(weight((zero, span, most, 1), [zero] * 94), 0)
                    self.assertEqual(weight((zero, span, most, 1), [zero + span] * 94), most)
                    self.assertEqual(weight((zero, span, most, 1), [zero - span] * 94), -most)

    def test_all_at_their_ends(self):
        for zero in (-4194304, 4194304):
            for span in (1000, 8388608):
                for most in (100, 100000):
                    for reading in (LOW, HIGH):
                        wanted = weight_by_words(1024 * reading, zero, span, most)
                        self.assertEqual(weight((zero, span, most, 1), [reading] * 94), wanted)
        self.assertEqual(weight((-4194304, 1000, 100000, 1), [HIGH] * 94), 1258291100)
        self.assertEqual(weight((4194304, 1000, 100000, 1), [LOW] * 94), -1258291200)
        self.assertEqual(weight((4194304, 8388608, 100, 1), [LOW] * 94), -150)

    def test_by_the_words(self):
        draw = random.Random(2)
        for _ in range(1500):
            settings = draw_settings(draw)
            readings = draw_readings(draw, draw.choice([94, 95, 126, draw.randint(94, 300)]))
            wanted = weight_by_words(smooth_at(readings, len(readings)), *settings[:3])
            self.assertEqual(weight(settings, readings), wanted)


def still(window, readings):
    return told((0, 1000, 1000, window), readings)[2]


def rising(height):
    """94 readings whose first smooth one is 0 and whose last is just height, the greatest."""
    steps, rest = divmod(height, 496)
    return [0] * 63 + [steps] * 30 + [steps + rest]


WINDOWS = (1, 2, 3, 7, 100, 1000, 65536, 1048575, 1048576)


class Still(unittest.TestCase):
    def test_at_the_window_and_one_more(self):
        for window in WINDOWS:
            for more, wanted in ((-1, 1), (0, 1), (1, 0)):
                readings = rising(1024 * window + more)
                smooth = [smooth_at(readings, end) for end in range(63, 95)]
                self.assertEqual(max(smooth) - min(smooth), 1024 * window + more)
                with self.subTest(window=window, more=more):
                    self.assertEqual(still(window, readings), wanted)
                    self.assertEqual(still(window, [-reading for reading in readings]), wanted)
                    self.assertEqual(still(window, readings[::-1]), wanted)
                    self.assertEqual(still(window, [-reading for reading in readings[::-1]]), wanted)

    def test_whatever_lies_at_zero(self):
        for base in (-4194304, -1, 1, 1000000, 4194304):
            for more, wanted in ((0, 1), (1, 0)):
                readings = [base + reading for reading in rising(1024 * 5 + more)]
                self.assertEqual(still(5, readings), wanted)
                self.assertEqual(told((base, 8388608, 100, 5), readings)[2], wanted)

    def test_greatest_or_least_in_the_midst(self):
        # Of the 47th of 94 readings the smooth ones tell 17, 18 .. 32 .. 17, 16 times as much.
        for window in (1, 9, 1000):
            for turn in (1, -1):
                for more, wanted in ((-1, 1), (0, 1), (1, 0)):
                    readings = [0] * 94
                    readings[46] = turn * 64 * window
                    readings[93] = -turn * more
                    smooth = [smooth_at(readings, end) for end in range(63, 95)]
                    self.assertEqual(max(smooth) - min(smooth), 1024 * window + more)
                    self.assertEqual(turn * smooth[15], max(turn * one for one in smooth))
                    self.assertEqual(still(window, readings), wanted)

    def test_hump_and_hollow(self):
        for turn in (1, -1):
            # The first reading is in the first smooth one alone, the last in the last alone.
            for more, wanted in ((0, 1), (1, 0)):
                readings = [turn * 1024] + [0] * 92 + [turn * (-2048 - more)]
                self.assertEqual(still(3, readings), wanted)

    def test_32_smooth_ones(self):
        # The first of 94 readings is in the oldest of the 32 alone; with one reading more it is in none.
        for turn in (1, -1):
            readings = [turn * 1025] + [0] * 93
            self.assertEqual(still(1, readings), 0)
            self.assertEqual(still(1, readings + [0]), 1)
            self.assertEqual(still(1, [turn * 1024] + [0] * 93), 1)

    def test_how_long_a_knock_lasts(self):
        given = ask(start(), feed([0] * 200), feed([5000]), *[feed([0])] * 100)[2:]
        self.assertEqual([answer[3] for answer in given], [0] * 94 + [1] * 7)

    def test_over_a_cut(self):
        for window in (1, 50, 1048576):
            for more, wanted in ((0, 1), (1, 0)):
                readings = rising(1024 * window + more)
                for cut in range(95):
                    given = ask(start(window=window), feed(readings[:cut]), feed(readings[cut:]))
                    self.assertEqual(given[2][3], wanted)

    def test_over_a_cut_behind_the_94th(self):
        for turn in (1, -1):
            readings = [0] * 100 + [turn * 1025] + [0] * 93
            for cut in range(94, 194):
                given = ask(start(), feed(readings[:cut]), feed(readings[cut:]), feed([0]))
                self.assertEqual([given[2][3], given[3][3]], [0, 1])

    def test_says_nothing_of_the_weight(self):
        # Not still, though the weight is the same all along.
        readings = [0] * 93 + [1025]
        self.assertEqual(told((0, 8388608, 100, 1), readings), [0, 1, 0, 0, 0])
        # Still, though the weight leaps by thousands.
        readings = [0] * 31 + [300000] * 63
        self.assertEqual(told((0, 1000, 100000, 1048576), readings)[2], 1)


class UnderAndOver(unittest.TestCase):
    def test_under(self):
        for most in (1000, 2500, 100000):
            for number, wanted in ((0, 0), (-19, 0), (-20, 0), (-21, 1), (-22, 1), (-1000, 1), (LOW, 1)):
                with self.subTest(most=most, number=number):
                    self.assertEqual(told((0, most, most, 1), [number] * 94), [number, 1, 1, wanted, 0])

    def test_under_rounded(self):
        # A tenth of an interval each: -205 is half-way and told as -20.
        for number, wanted in ((-200, 0), (-204, 0), (-205, 0), (-206, 1), (-210, 1)):
            self.assertEqual(told((0, 1000, 100, 1), [number] * 94)[3], wanted)
        self.assertEqual(told((0, 1000, 100, 1), [-205] * 93 + [-206]), [-21, 1, 1, 1, 0])

    def test_over(self):
        for most in (1000, 2500, 100000):
            for more, wanted in ((-1, 0), (0, 0), (8, 0), (9, 0), (10, 1), (11, 1), (1000, 1)):
                with self.subTest(most=most, more=more):
                    given = told((0, most, most, 1), [most + more] * 94)
                    self.assertEqual(given, [most + more, 1, 1, 0, wanted])

    def test_over_rounded(self):
        # A tenth of an interval each: 1,095 is half-way and told as 110.
        for number, wanted in ((1090, 0), (1094, 0), (1095, 1), (1100, 1)):
            self.assertEqual(told((0, 1000, 100, 1), [number] * 94)[4], wanted)
        self.assertEqual(told((0, 1000, 100, 1), [1095] * 93 + [1094]), [109, 1, 1, 0, 0])

    def test_with_zero_elsewhere(self):
        for zero in (-4194304, -21, 21, 4194304):
            self.assertEqual(told((zero, 1000, 1000, 1), [zero - 20] * 94), [-20, 1, 1, 0, 0])
            self.assertEqual(told((zero, 1000, 1000, 1), [zero - 21] * 94), [-21, 1, 1, 1, 0])
            self.assertEqual(told((zero, 1000, 1000, 1), [zero + 1009] * 94), [1009, 1, 1, 0, 0])
            self.assertEqual(told((zero, 1000, 1000, 1), [zero + 1010] * 94), [1010, 1, 1, 0, 1])

    def test_while_it_is_not_still(self):
        self.assertEqual(told((0, 1000, 1000, 1), [0] * 31 + [-21] * 63)[2:], [0, 1, 0])
        self.assertEqual(told((0, 1000, 1000, 1), [0] * 31 + [1010] * 63)[2:], [0, 0, 1])


class WholeLines(unittest.TestCase):
    def test_by_the_words(self):
        draw = random.Random(3)
        for _ in range(120):
            calls = []
            for _ in range(draw.randint(1, 4)):
                calls.append(start(*draw_settings(draw)))
                pieces = draw_cuts(draw, draw_readings(draw, draw.randint(0, 400)))
                calls.extend(feed(piece) for piece in pieces)
            for _ in range(draw.randint(0, 4)):
                spoiled = draw.choice([start(span=999), start(window=0), feed([HIGH + 1]), feed([0] * 1025), feed()])
                calls.insert(draw.randint(0, len(calls)), spoiled)
            self.assertEqual(ask(*calls[:256]), by_words(*calls[:256]))


if __name__ == "__main__":
    unittest.main()
