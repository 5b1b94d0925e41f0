"""start: the ranges of its four numbers, refusals that leave the object as it was, a start anew."""

import unittest

from straight import HIGH, LOW, NOTHING, ask, feed, start

GOOD = {"zero": 0, "span": 1000, "most": 1000, "window": 1}
ENDS = {
    "zero": (-4194304, 4194304),
    "span": (1000, 8388608),
    "most": (100, 100000),
    "window": (1, 1048576),
}
FARTHEST = {
    "zero": (-2147483648, 2147483647),
    "span": (0, 4294967295),
    "most": (0, 4294967295),
    "window": (0, 4294967295),
}


def start_with(**changed):
    return start(**{**GOOD, **changed})


def refused_starts():
    """One start for each end of each range, just beyond it and as far beyond as may be; then several at once."""
    starts = []
    for name, (low, high) in ENDS.items():
        for number in (low - 1, high + 1, *FARTHEST[name]):
            starts.append(start_with(**{name: number}))
    starts.append(start(4194305, 999, 99, 0))
    starts.append(start(-4194305, 8388609, 100001, 1048577))
    starts.append(start(-2147483648, 0, 0, 0))
    return starts


class Ranges(unittest.TestCase):
    def test_each_at_its_ends(self):
        for name, ends in ENDS.items():
            for number in ends:
                with self.subTest(name=name, number=number):
                    self.assertEqual(ask(start_with(**{name: number})), [[0]])

    def test_each_one_inside_its_ends(self):
        for name, (low, high) in ENDS.items():
            for number in (low + 1, high - 1):
                with self.subTest(name=name, number=number):
                    self.assertEqual(ask(start_with(**{name: number})), [[0]])

    def test_all_at_their_ends_together(self):
        for zero in ENDS["zero"]:
            for span in ENDS["span"]:
                for most in ENDS["most"]:
                    for window in ENDS["window"]:
                        self.assertEqual(ask(start(zero, span, most, window)), [[0]])

    def test_each_beyond_its_ends(self):
        for call in refused_starts():
            with self.subTest(call=call):
                self.assertEqual(ask(call), [[-22]])

    def test_zero_below_0(self):
        for zero in (-1, -1000, -4194303, -4194304):
            self.assertEqual(ask(start(zero=zero)), [[0]])
        for zero in (-4194305, -4194306, -8388608, -2147483648):
            self.assertEqual(ask(start(zero=zero)), [[-22]])


class Refused(unittest.TestCase):
    def test_before_a_first_start_the_object_stays_not_begun(self):
        for call in refused_starts():
            with self.subTest(call=call):
                self.assertEqual(ask(call, feed([5] * 94), feed()), [[-22], [-11], [-11]])

    def test_a_good_start_behind_a_refused_one(self):
        for call in refused_starts():
            with self.subTest(call=call):
                given = ask(call, start(zero=3), feed([5] * 94))
                self.assertEqual(given, [[-22], [0], [0, 2, 1, 1, 0, 0]])

    def test_readings_that_have_come_stay(self):
        for call in refused_starts():
            with self.subTest(call=call):
                given = ask(start(), feed([5] * 93), call, feed(), feed([5]), call, feed())
                self.assertEqual(given, [[0], NOTHING, [-22], NOTHING, [0, 5, 1, 1, 0, 0], [-22], [0, 5, 1, 1, 0, 0]])

    def test_settings_stay(self):
        # Each of these calls has three numbers that would be taken: none of them may be.
        refused = [
            start(100, 2000, 500, 0), start(100, 2000, 99, 500), start(100, 999, 500, 500),
            start(4194305, 2000, 500, 500), start(-4194305, 2000, 500, 500), start(100, 8388609, 500, 500),
            start(100, 2000, 100001, 500), start(100, 2000, 500, 1048577),
        ]
        # Over tells most, still tells window, the weight tells zero and span.
        readings = [1010] * 93 + [1010 + 1025]
        for call in refused:
            with self.subTest(call=call):
                given = ask(start(), call, feed(readings), call, feed())
                self.assertEqual(given, [[0], [-22], [0, 1011, 1, 0, 0, 1], [-22], [0, 1011, 1, 0, 0, 1]])


class Anew(unittest.TestCase):
    def test_no_reading_has_come(self):
        self.assertEqual(
            ask(start(), feed([7] * 200), start(), feed(), feed([9] * 93), feed([9])),
            [[0], [0, 7, 1, 1, 0, 0], [0], NOTHING, NOTHING, [0, 9, 1, 1, 0, 0]],
        )

    def test_readings_ahead_of_it_do_not_count(self):
        for ahead in (1, 31, 62, 63, 93):
            with self.subTest(ahead=ahead):
                given = ask(start(), feed([LOW] * ahead), start(), feed([9] * (94 - ahead)), feed([9] * (ahead - 1)))
                self.assertEqual(given[3:], [NOTHING, NOTHING])
                given = ask(start(), feed([HIGH] * ahead), start(), feed([9] * 94))
                self.assertEqual(given[3], [0, 9, 1, 1, 0, 0])

    def test_each_setting_is_set_anew(self):
        readings = [1010] * 93 + [1010 + 1025]
        anew = {
            "zero": (start(zero=10), [0, 1001, 1, 0, 0, 0]),
            "zero below 0": (start(zero=-10), [0, 1021, 1, 0, 0, 1]),
            "span": (start(span=2000), [0, 506, 1, 0, 0, 0]),
            "most": (start(most=2000), [0, 2022, 1, 0, 0, 1]),
            "window": (start(window=2), [0, 1011, 1, 1, 0, 1]),
        }
        for name, (call, answer) in anew.items():
            with self.subTest(name=name):
                given = ask(start(), feed(readings), call, feed(readings))
                self.assertEqual(given, [[0], [0, 1011, 1, 0, 0, 1], [0], answer])
                self.assertEqual(ask(call, feed(readings)), [[0], answer])

    def test_many_starts(self):
        calls = []
        wanted = []
        for zero in range(-60, 60):
            calls += [start(zero=zero), feed([0] * 94)]
            wanted += [[0], [0, -zero, 1, 1, int(zero > 20), 0]]
        self.assertEqual(ask(*calls), wanted)


if __name__ == "__main__":
    unittest.main()
