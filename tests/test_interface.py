"""steadyweight.pan.answers: how calls and answers stand in their lists, and what it leaves alone."""

import builtins
import contextlib
import io
import random
import sys
import time
import unittest
from unittest import mock

from straight import NOTHING, ask, by_words, draw_cuts, draw_readings, draw_settings, feed, start

from steadyweight import pan
from steadyweight.pan import answers

# A start, a feed of each kind, refusals of each kind.
MIXED = (
    [1, 0] + [0, -3, 999, 1000, 1] + [1, 2, 9999999, 0] + [0, -3, 1000, 1000, 1] + [1, 94] + [-40] * 94
    + [1, 1, 8388608] + [1, 0] + [0, 0, 1000, 1000, 0] + [1, 1025] + [1] * 1025 + [1, 1, 1000]
)
MIXED_ANSWERS = (
    [1, -11] + [1, -22] + [1, -11] + [1, 0] + [6, 0, -37, 1, 1, 1, 0]
    + [1, -22] + [6, 0, -37, 1, 1, 1, 0] + [1, -22] + [1, -22] + [6, 0, -36, 1, 0, 1, 0]
)


class Unchangeable(list):
    """A list that is read as any other, and breaks at once when it is changed."""

    def changed(self, *_, **__):
        raise AssertionError("what was handed in is changed")

    __setitem__ = __delitem__ = __iadd__ = __imul__ = changed
    append = extend = insert = pop = remove = clear = sort = reverse = changed


class Form(unittest.TestCase):
    def test_one_call_alone(self):
        self.assertEqual(answers([0, 0, 1000, 1000, 1]), [1, 0])
        self.assertEqual(answers([0, 0, 1000, 1000, 0]), [1, -22])
        self.assertEqual(answers([1, 0]), [1, -11])
        self.assertEqual(answers([1, 3, 1, 2, 3]), [1, -11])
        self.assertEqual(answers([1, 2, 0, 0]), [1, -11])

    def test_numbers_of_start_in_their_order(self):
        self.assertEqual(answers([0, -4194304, 8388608, 100, 1048576]), [1, 0])
        self.assertEqual(answers([0, 1000, 1000, 100, 1]), [1, 0])
        self.assertEqual(answers([0, 1000, 100, 1000, 1]), [1, -22])

    def test_five_numbers_in_their_order(self):
        self.assertEqual(answers([0, 0, 1000, 1000, 1, 1, 2, 0, 1]), [1, 0, 6, 0, 0, 0, 0, 0, 0])
        self.assertEqual(answers([0, 0, 1000, 1000, 1, 1, 94] + [-30] * 94), [1, 0, 6, 0, -30, 1, 1, 1, 0])
        self.assertEqual(answers([0, 0, 1000, 1000, 1, 1, 94] + [1010] * 94), [1, 0, 6, 0, 1010, 1, 1, 0, 1])
        moving = [0] * 31 + [500] * 63
        self.assertEqual(answers([0, 0, 1000, 1000, 1, 1, 94] + moving), [1, 0, 6, 0, 500, 1, 0, 0, 0])

    def test_calls_one_behind_another(self):
        self.assertEqual(answers(list(MIXED)), MIXED_ANSWERS)

    def test_readings_that_look_like_calls(self):
        readings = [0, 1, 0, 1000, 1000, 1, 1, 0] * 12
        given = answers([0, 0, 1000, 1000, 1, 1, 96] + readings + [1, 0])
        self.assertEqual(given, [1, 0] + 2 * ([6] + by_words(start(), feed(readings))[1]))

    def test_256_calls(self):
        self.assertEqual(answers([1, 0] * 256), [1, -11] * 256)
        self.assertEqual(answers([0, 0, 1000, 1000, 1] * 256), [1, 0] * 256)
        self.assertEqual(answers([0, 0, 1000, 1000, 1] + [1, 1, 5] * 255)[2:653], [6, 0, 0, 0, 0, 0, 0] * 93)
        self.assertEqual(answers([0, 0, 1000, 1000, 1] + [1, 1, 5] * 255)[653:], [6, 0, 5, 1, 1, 0, 0] * 162)
        self.assertEqual(len(answers([1, 1, 0] * 255 + [0, 0, 1000, 1000, 1])), 512)

    def test_plain_whole_numbers(self):
        given = answers(list(MIXED))
        self.assertIs(type(given), list)
        for number in given:
            self.assertIs(type(number), int)

    def test_its_name_and_argument(self):
        self.assertIs(pan.answers, answers)
        self.assertEqual(answers.__module__, "steadyweight.pan")
        self.assertEqual(answers(calls=[1, 0]), [1, -11])
        self.assertEqual(answers.__code__.co_argcount, 1)
        self.assertIsNone(answers.__defaults__)


class LeftAlone(unittest.TestCase):
    def test_what_is_handed_in(self):
        for line in (list(MIXED), [1, 0], start() + feed([5] * 94), start() + feed([5] * 30000)):
            handed_in = line
            before = list(line)
            answers(handed_in)
            self.assertIs(handed_in, line)
            self.assertEqual(line, before)

    def test_not_changed_for_a_while_either(self):
        self.assertEqual(answers(Unchangeable(MIXED)), MIXED_ANSWERS)
        line = start() + feed([5] * 500) + feed() + feed([6] * 1025) + feed([9999999])
        self.assertEqual(answers(Unchangeable(line)), answers(line))

    def test_what_is_given_back_is_a_list_of_its_own(self):
        line = [1, 0]
        first = answers(line)
        self.assertIsNot(first, line)
        first.append(99)
        self.assertEqual(answers(line), [1, -11])

    def test_called_twice(self):
        draw = random.Random(61)
        for _ in range(50):
            line = start(*draw_settings(draw))
            for piece in draw_cuts(draw, draw_readings(draw, 250)):
                line += feed(piece)
            self.assertEqual(answers(line), answers(line))
        self.assertEqual(answers(list(MIXED)), answers(list(MIXED)))

    def test_nothing_is_kept(self):
        answers(start() + feed([5] * 94))
        self.assertEqual(answers(feed()), [1, -11])
        self.assertEqual(answers(start() + feed([5])), [1, 0, 6] + NOTHING)
        answers(start(zero=50, most=100))
        self.assertEqual(answers(feed([5] * 94)), [1, -11])

    def test_another_object_does_not_disturb(self):
        alone = answers(start() + feed([5] * 93) + feed([6]))
        answers(start(zero=900) + feed([-5] * 300))
        self.assertEqual(answers(start() + feed([5] * 93) + feed([6])), alone)

    def test_prints_reads_and_imports_nothing(self):
        def refused(*_, **__):
            raise AssertionError("it prints, reads or imports")

        out = io.StringIO()
        loaded = set(sys.modules)
        with contextlib.redirect_stdout(out), contextlib.redirect_stderr(out):
            with mock.patch.multiple(builtins, print=refused, open=refused, input=refused, __import__=refused):
                given = answers(list(MIXED))
        self.assertEqual(given, MIXED_ANSWERS)
        self.assertEqual(out.getvalue(), "")
        self.assertEqual(set(sys.modules), loaded)


class Long(unittest.TestCase):
    def within_seconds(self, line):
        began = time.process_time()
        given = answers(line)
        self.assertLess(time.process_time() - began, 5)
        return given

    def test_one_feed_that_is_refused(self):
        line = start() + feed([5] * 30000)
        self.assertEqual(self.within_seconds(line), [1, 0, 1, -22])
        self.assertEqual(self.within_seconds(feed([5] * 30000)), [1, -11])
        line = start() + feed([5] * 29999 + [9999999]) + feed()
        self.assertEqual(self.within_seconds(line), [1, 0, 1, -22, 6] + NOTHING)

    def test_many_feeds(self):
        readings = [(place * place * 7919) % 100001 - 50000 for place in range(30345)]
        for length in (119, 500, 1024):
            pieces = [feed(readings[at:at + length]) for at in range(0, len(readings), length)]
            calls = [start(1000, 5000, 3000, 10000)] + pieces
            self.assertLessEqual(len(calls), 256)
            line = [number for call in calls for number in call]
            self.assertLessEqual(len(line), 31000)
            given = self.within_seconds(line)
            self.assertEqual(given[:2], [1, 0])
            self.assertEqual(given[2:], [number for five in by_words(*calls)[1:] for number in [6] + five])

    def test_many_starts_and_feeds(self):
        calls = [start(), feed([5] * 235)] * 128
        self.assertLessEqual(sum(map(len, calls)), 31000)
        self.within_seconds([number for call in calls for number in call])
        self.assertEqual(ask(*calls), [[0], [0, 5, 1, 1, 0, 0]] * 128)


if __name__ == "__main__":
    unittest.main()
