"""feed: what it refuses and that nothing of it has come then, a feed of none, and from when on it is ready."""

import unittest

from straight import HIGH, LOW, NOTHING, ask, feed, start

NO_READINGS = (LOW - 1, HIGH + 1, -2147483648, 2147483647)


def spoiled_feeds():
    """Feeds that are to be refused: with a number that is no reading at many places, or too long."""
    feeds = []
    for number in NO_READINGS:
        for length, place in ((1, 0), (2, 0), (2, 1), (94, 50), (94, 93), (1024, 0), (1024, 511), (1024, 1023)):
            numbers = [77] * length
            numbers[place] = number
            feeds.append(feed(numbers))
    feeds.append(feed([77] * 1025))
    feeds.append(feed([77] * 1024 + [HIGH + 1]))
    feeds.append(feed([77] * 5000))
    return feeds


class NotBegun(unittest.TestCase):
    def test_before_any_start(self):
        for numbers in ([], [0], [5] * 94, [LOW, HIGH], [5] * 1024):
            self.assertEqual(ask(feed(numbers), feed(numbers)), [[-11], [-11]])

    def test_told_ahead_of_out_of_range(self):
        for call in spoiled_feeds():
            self.assertEqual(ask(call), [[-11]])
            self.assertEqual(ask(start(window=0), call), [[-22], [-11]])

    def test_after_refused_starts_only(self):
        calls = [start(span=999), feed([5] * 94), start(zero=4194305), feed(), start(most=99), feed([5] * 1025)]
        self.assertEqual(ask(*calls), [[-22], [-11], [-22], [-11], [-22], [-11]])

    def test_what_came_too_early_has_not_come(self):
        self.assertEqual(ask(feed([5] * 93), start(), feed([5]), feed([5] * 92)), [[-11], [0], NOTHING, NOTHING])
        self.assertEqual(ask(feed([5] * 94), start(), feed())[2], NOTHING)


class Lengths(unittest.TestCase):
    def test_1024_numbers(self):
        self.assertEqual(ask(start(), feed([5] * 1023)), [[0], [0, 5, 1, 1, 0, 0]])
        self.assertEqual(ask(start(), feed([5] * 1024)), [[0], [0, 5, 1, 1, 0, 0]])

    def test_more_than_1024_numbers(self):
        for length in (1025, 1026, 2048, 30000):
            self.assertEqual(ask(start(), feed([5] * length), feed()), [[0], [-22], NOTHING])

    def test_too_many_and_no_readings(self):
        self.assertEqual(ask(start(), feed([HIGH + 1] * 1025), feed()), [[0], [-22], NOTHING])

    def test_1024_each_time(self):
        calls = [feed([number] * 1024) for number in range(20)]
        self.assertEqual(ask(start(), *calls)[1:], [[0, number, 1, 1, 0, 0] for number in range(20)])


class Readings(unittest.TestCase):
    def test_at_their_ends(self):
        self.assertEqual(ask(start(), feed([LOW])), [[0], NOTHING])
        self.assertEqual(ask(start(), feed([HIGH])), [[0], NOTHING])
        self.assertEqual(ask(start(), feed([LOW + 1, HIGH - 1, LOW, HIGH])), [[0], NOTHING])
        self.assertEqual(ask(start(), feed([LOW] * 94)), [[0], [0, LOW, 1, 1, 1, 0]])
        self.assertEqual(ask(start(), feed([HIGH] * 94)), [[0], [0, HIGH, 1, 1, 0, 1]])

    def test_beyond_their_ends(self):
        for number in NO_READINGS:
            with self.subTest(number=number):
                self.assertEqual(ask(start(), feed([number]), feed([number] * 94)), [[0], [-22], [-22]])

    def test_one_that_is_none_at_each_place(self):
        for number in (LOW - 1, HIGH + 1):
            for place in range(94):
                numbers = [5] * 94
                numbers[place] = number
                self.assertEqual(ask(start(), feed(numbers)), [[0], [-22]])


class Refused(unittest.TestCase):
    def test_before_any_reading(self):
        for call in spoiled_feeds():
            self.assertEqual(ask(start(), call, feed()), [[0], [-22], NOTHING])

    def test_none_of_its_readings_has_come(self):
        for call in spoiled_feeds():
            given = ask(start(), feed([5] * 93), call, feed(), call, feed([5]), call, feed())
            self.assertEqual(given[1:4], [NOTHING, [-22], NOTHING])
            self.assertEqual(given[4:], [[-22], [0, 5, 1, 1, 0, 0], [-22], [0, 5, 1, 1, 0, 0]])

    def test_what_came_ahead_of_it_stays(self):
        readings = [place * place for place in range(94)]
        for call in spoiled_feeds():
            whole = ask(start(), feed(readings), feed([3, 4]))
            given = ask(start(), feed(readings[:40]), call, feed(readings[40:]), call, feed([3, 4]))
            self.assertEqual([given[3], given[5]], whole[1:])

    def test_settings_stay(self):
        settings = (-50, 1000, 100, 3)
        for call in spoiled_feeds():
            given = ask(start(*settings), call, feed([5] * 94))
            self.assertEqual(given, [[0], [-22], [0, 6, 1, 1, 0, 0]])


class FeedOfNone(unittest.TestCase):
    def test_before_the_94th_reading(self):
        self.assertEqual(ask(start(), feed()), [[0], NOTHING])
        self.assertEqual(ask(start(), feed(), feed(), feed()), [[0], NOTHING, NOTHING, NOTHING])
        for come in (1, 31, 32, 62, 63, 64, 92, 93):
            given = ask(start(), feed([5] * come), feed(), feed())
            self.assertEqual(given[1:], [NOTHING, NOTHING, NOTHING])

    def test_is_no_reading(self):
        self.assertEqual(ask(start(), feed([5] * 93), feed(), feed(), feed([5]))[4], [0, 5, 1, 1, 0, 0])
        self.assertEqual(ask(start(), feed([5] * 92), feed(), feed([5]), feed())[1:], [NOTHING] * 4)

    def test_after_the_94th_reading(self):
        readings = [place * 37 for place in range(200)]
        for come in (94, 95, 96, 127, 200):
            given = ask(start(), feed(readings[:come]), feed(), feed(), feed())
            self.assertEqual(given[1][2], 1)
            self.assertEqual(given[2:], [given[1]] * 3)


class Ready(unittest.TestCase):
    def test_in_one_feed(self):
        for come in range(94):
            self.assertEqual(ask(start(), feed([-500] * come))[1], NOTHING)
        for come in (94, 95, 96, 188, 1024):
            self.assertEqual(ask(start(), feed([-500] * come))[1], [0, -500, 1, 1, 1, 0])

    def test_one_by_one(self):
        given = ask(start(), *[feed([5000])] * 250)[1:]
        self.assertEqual(given[:93], [NOTHING] * 93)
        self.assertEqual(given[93:], [[0, 5000, 1, 1, 0, 1]] * 157)

    def test_in_two_pieces(self):
        for first in range(94):
            given = ask(start(), feed([5] * first), feed([5] * (93 - first)), feed([5]))
            self.assertEqual(given[1:], [NOTHING, NOTHING, [0, 5, 1, 1, 0, 0]])

    def test_trembling_readings(self):
        readings = [(place * 7919) % 4001 - 2000 for place in range(94)]
        for cut in (0, 1, 47, 92, 93):
            given = ask(start(), feed(readings[:cut]), feed(readings[cut:93]), feed(readings[93:]))
            self.assertEqual(given[2], NOTHING)
            self.assertEqual(given[3][2], 1)


if __name__ == "__main__":
    unittest.main()
