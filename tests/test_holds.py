"""What holds of all that is told: Between, Hum changes nothing, Still is still, Steady, and whatever pieces."""

import random
import unittest

from straight import HIGH, LOW, NOTHING, ask, draw_cuts, draw_readings, draw_settings, feed, start, told


class Between(unittest.TestCase):
    def check(self, settings, ahead, readings, low, high):
        lowest = told(settings, [low] * 94)[0]
        highest = told(settings, [high] * 94)[0]
        weight = told(settings, ahead + readings)[0]
        self.assertLessEqual(lowest, weight)
        self.assertLessEqual(weight, highest)

    def test_many(self):
        draw = random.Random(11)
        for _ in range(1000):
            low = draw.choice([LOW, draw.randint(LOW, HIGH), draw.randint(-300, 300)])
            high = draw.choice([HIGH, low, draw.randint(low, HIGH), min(HIGH, low + draw.randint(0, 20))])
            readings = [draw.choice([low, high, draw.randint(low, high)]) for _ in range(63)]
            self.check(draw_settings(draw), draw_readings(draw, 31 + draw.randint(0, 40)), readings, low, high)

    def test_close_to_either_end(self):
        draw = random.Random(12)
        for place in range(63):
            low = draw.randint(-2000, 2000)
            for end, other in ((low, low + 1), (low + 1, low)):
                readings = [end] * 63
                readings[place] = other
                self.check((0, 1000, 1000, 1), [LOW] * 31, readings, low, low + 1)
                self.check((0, 1000, 1000, 1), [HIGH] * 31, readings, low, low + 1)


def hums(draw):
    """Some 32 numbers that come to 0 together."""
    reach = draw.choice([1, 40, 3000, 100000])
    numbers = [draw.randint(-reach, reach) for _ in range(31)]
    numbers.append(-sum(numbers))
    draw.shuffle(numbers)
    return numbers


class HumChangesNothing(unittest.TestCase):
    def check(self, settings, readings, hum):
        hummed = [reading + hum[place % 32] for place, reading in enumerate(readings)]
        self.assertTrue(LOW <= min(hummed) and max(hummed) <= HIGH)
        self.assertEqual(told(settings, hummed), told(settings, readings))

    def test_many(self):
        draw = random.Random(21)
        for _ in range(1000):
            readings = [reading // 3 for reading in draw_readings(draw, draw.randint(1, 250))]
            self.check(draw_settings(draw), readings + [0] * draw.choice([0, 94]), hums(draw))

    def test_numbers_that_come_round_more_often(self):
        draw = random.Random(22)
        for often in (2, 4, 8, 16):
            for _ in range(50):
                part = [draw.randint(-5000, 5000) for _ in range(often - 1)]
                part.append(-sum(part))
                readings = [draw.randint(-50, 50) for _ in range(draw.randint(94, 160))]
                self.check((draw.randint(-90, 90), 1000, 1000, draw.randint(1, 9)), readings, part * (32 // often))

    def test_up_to_the_ends(self):
        for far in (LOW, HIGH):
            hum = [far] + [0] * 15 + [-far - 1 if far == LOW else -far] + [1 if far == LOW else 0] + [0] * 14
            self.assertEqual(sum(hum), 0)
            self.check((0, 1000, 100000, 1), [0] * 120, hum)

    def test_at_the_edge_of_still(self):
        draw = random.Random(23)
        for more, wanted in ((0, 1), (1, 0)):
            readings = [0] * 93 + [1024 + more]
            for _ in range(100):
                self.check((0, 1000, 1000, 1), readings, hums(draw))
            self.assertEqual(told((0, 1000, 1000, 1), readings)[2], wanted)

    def test_in_pieces(self):
        draw = random.Random(24)
        for _ in range(150):
            settings = draw_settings(draw)
            readings = [draw.randint(-3000, 3000) for _ in range(draw.randint(94, 400))]
            hum = hums(draw)
            hummed = [reading + hum[place % 32] for place, reading in enumerate(readings)]
            seed = draw.random()
            plain = draw_cuts(random.Random(seed), readings)
            other = draw_cuts(random.Random(seed), hummed)
            self.assertEqual(
                ask(start(*settings), *map(feed, plain[:255])), ask(start(*settings), *map(feed, other[:255]))
            )


class StillIsStill(unittest.TestCase):
    def test_many(self):
        draw = random.Random(31)
        stills = 0
        for _ in range(200):
            zero, span, most, _ = draw_settings(draw)
            window = draw.choice([1, 5, 100, 1048576, draw.randint(1, 1048576)])
            # Drifting slowly and trembling: by turns still and not.
            drift = draw.randint(-window, window) // 16
            readings = [draw.randint(-window // 8, window // 8) + drift * place for place in range(220)]
            readings = [min(HIGH, max(LOW, reading)) for reading in readings]
            given = ask(start(zero, span, most, window), feed(readings[:30]), *[feed([one]) for one in readings[30:]])
            told_each = [answer for answer in given[1:] if answer[2] == 1]
            for last in range(31, len(told_each)):
                if told_each[last][3] == 1:
                    stills += 1
                    weights = [answer[1] for answer in told_each[last - 31:last + 1]]
                    self.assertLessEqual((max(weights) - min(weights) - 1) * span, window * most)
        self.assertGreater(stills, 2000)

    def test_over_a_half(self):
        # A tenth of an interval each: 4 is told as 0 and 5 as 1, and one is what may be added to a window of 1.
        for settings, numbers, weights in (((0, 1000, 100, 1), (4, 5), (0, 1)), ((0, 1000, 100, 1), (-5, -6), (0, -1))):
            readings = [numbers[0]] * 94 + [numbers[1]] * 94
            given = ask(start(*settings), *[feed([one]) for one in readings])[94:]
            self.assertEqual({answer[1] for answer in given}, set(weights))
            self.assertEqual([answer[3] for answer in given], [1] * 95)


class Steady(unittest.TestCase):
    def check(self, settings, ahead, reading):
        given = told(settings, ahead + [reading] * 94)
        zero, span, most, _ = settings
        twice = 2 * (reading - zero) * most
        # The weight of one reading alone: nearest, of two the greater.
        self.assertLessEqual((2 * given[0] - 1) * span, twice)
        self.assertLess(twice, (2 * given[0] + 1) * span)
        self.assertEqual(given[1:3], [1, 1])

    def test_many(self):
        draw = random.Random(41)
        for _ in range(1000):
            reading = draw.choice([LOW, HIGH, 0, -1, draw.randint(LOW, HIGH), draw.randint(-2000, 2000)])
            self.check(draw_settings(draw), draw_readings(draw, draw.randint(0, 120)), reading)

    def test_each_reading_near_zero(self):
        for reading in range(-300, 300):
            self.check((0, 1000, 100, 1), [], reading)
            self.check((-7, 3000, 1000, 1), [HIGH] * 31 + [LOW] * 62, reading)

    def test_93_like_ones_behind_another_do_not(self):
        self.assertEqual(told((0, 1000, 1000, 1), [1025] + [0] * 93)[2], 0)


class WhateverPieces(unittest.TestCase):
    def test_many(self):
        draw = random.Random(51)
        for _ in range(200):
            settings = draw_settings(draw)
            readings = draw_readings(draw, draw.randint(0, 250))
            one_by_one = [NOTHING] + ask(start(*settings), *[feed([one]) for one in readings])[1:]
            for _ in range(3):
                pieces = draw_cuts(draw, readings)[:255]
                given = ask(start(*settings), *map(feed, pieces))[1:]
                come = 0
                for piece, answer in zip(pieces, given, strict=True):
                    come += len(piece)
                    self.assertEqual(answer, one_by_one[come])

    def test_two_pieces_at_each_cut(self):
        readings = [(place * place * 7919) % 3001 - 1500 for place in range(190)]
        wanted = ask(start(-30, 1000, 100, 200), feed(readings))[1]
        for cut in range(191):
            given = ask(start(-30, 1000, 100, 200), feed(readings[:cut]), feed(), feed(readings[cut:]))
            self.assertEqual(given[3], wanted)

    def test_many_long_feeds(self):
        readings = [(place * place * 104729) % 20001 - 10000 for place in range(12000)]
        for length in (48, 94, 500, 1000, 1024):
            pieces = [feed(readings[at:at + length]) for at in range(0, 12000, length)]
            last = ask(start(5, 1000, 3000, 700), *pieces)[-1]
            self.assertEqual(last, ask(start(5, 1000, 3000, 700), feed(readings[-1000:]))[1])


if __name__ == "__main__":
    unittest.main()
