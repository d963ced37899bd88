"""forecast: how all stand at the end of a run, in whatever order its instances end."""

import itertools
import random
import unittest

from tests.helper import after, ask, begin, ends, forecast, read, STAND

CHAIN = "job a\njob b\nneeds a\njob c\nneeds b\nwhen always\n"
HIGHEST = 4294967295
MIXED = """job build
  axis os linux mac
  when flag fast or ok
job test
  axis os linux mac
  beside build
job report
  needs test
  when bad and not flag quiet
job lint
  soft
job ship
  needs test lint
job tidy
  needs ship report
  when always
"""


class Forecast(unittest.TestCase):
    def told(self, text, flags, failures, *expected):
        self.assertEqual(after(text, forecast(flags, failures)), [list(expected)], (text, flags, failures))

    def test_without_jobs(self):
        self.assertEqual(ask(forecast(0, 0)), [[1]])

    def test_none_fails(self):
        self.told(CHAIN, 0, 0, 1, 2, 2, 2)

    def test_some_fail(self):
        self.told(CHAIN, 0, 1, 2, 3, 4, 2)
        self.told(CHAIN, 0, 2, 2, 2, 3, 2)
        self.told(CHAIN, 0, 4, 2, 2, 2, 3)
        self.told(CHAIN, 0, 5, 2, 3, 4, 3)

    def test_of_those_that_do_not_run_none_fails(self):
        self.told(CHAIN, 0, 3, 2, 3, 4, 2)
        self.told("job a\nwhen bad\n", 0, 1, 1, 4)
        self.told("job a\nwhen bad\njob b\nneeds a\nwhen bad\n", 0, 3, 1, 4, 4)

    def test_soft(self):
        self.told("job a\nsoft\njob b\nneeds a\njob c\nneeds a\nwhen bad\n", 0, 1, 1, 5, 2, 4)
        self.told("job a\nsoft\njob b\nneeds a\njob c\nneeds a\nwhen bad\n", 0, 3, 2, 5, 3, 4)
        self.told("job a\nsoft\n", 0, 0, 1, 2)

    def test_flags(self):
        text = "job a\nwhen flag p\njob b\nwhen flag q and not flag p\njob c\nneeds a b\nwhen not ok\n"
        self.told(text, 0, 0, 1, 4, 4, 2)
        self.told(text, 1, 0, 1, 2, 4, 2)
        self.told(text, 2, 0, 1, 4, 2, 2)
        self.told(text, 3, 0, 1, 2, 4, 2)
        self.told(text, 2, 7, 2, 4, 3, 3)

    def test_those_below_that_are_needed_above(self):
        self.told("job c\nneeds b\njob b\nneeds a\njob a\n", 0, 2, 2, 4, 3, 2)

    def test_mixed(self):
        self.told(MIXED, 0, 0, 1, 2, 2, 2, 2, 4, 2, 2, 2)
        self.told(MIXED, 0, 1, 2, 3, 2, 4, 2, 2, 2, 4, 2)
        self.told(MIXED, 2, 1, 2, 3, 2, 4, 2, 4, 2, 4, 2)
        self.told(MIXED, 1, 32, 1, 2, 2, 2, 2, 4, 5, 2, 2)
        self.told(MIXED, 0, 255, 2, 3, 3, 4, 4, 3, 5, 4, 3)

    def test_flags_too_high(self):
        for names in range(4):
            text = "job a\nwhen " + " or ".join(["ok"] + [f"flag f{number}" for number in range(names)]) + "\n"
            self.told(text, (1 << names) - 1, 1, 2, 3)
            for flags in (1 << names, (1 << names) + 1, 16, 2 ** 31, HIGHEST):
                for failures in (0, 1):
                    self.told(text, flags, failures, -3)

    def test_failures_too_high(self):
        self.assertEqual(ask(forecast(0, 1), forecast(1, 0), forecast(0, HIGHEST)), [[-3], [-3], [-3]])
        for count in (1, 2, 4, 23, 24):
            text = "".join(f"job {name}\naxis x 1 2 3\n" for name in "abcdefgh"[:count // 3])
            rest = " ".join("123"[:count % 3])
            if rest:
                text += f"job z\naxis x {rest}\n"
            self.told(text, 0, (1 << count) - 1, 2, *[3] * count)
            for failures in (1 << count, (1 << count) + 1, 2 ** 31, HIGHEST):
                self.told(text, 0, failures, -3)

    def test_both_too_high(self):
        self.told("job a\n", 1, 2, -3)

    def test_it_leaves_the_run_alone(self):
        rows = after(CHAIN, begin(0), forecast(0, 7), STAND, ends(0, 1), forecast(0, 1), STAND)
        self.assertEqual(rows[1:], [[2, 3, 4, 3], [0, 1, 0, 0], [0, 1, 1], [2, 3, 4, 2], [0, 2, 1, 0]])

    def test_it_is_about_the_pipeline_not_the_run(self):
        text = "job a\nwhen flag f\njob b\nneeds a\nwhen always\n"
        rows = after(text, begin(1), ends(0, 0), forecast(1, 0), forecast(0, 3))
        self.assertEqual(rows[2:], [[1, 2, 2], [2, 4, 3]])


def ended_in_order(text, flags, failures, choose):
    """How all stand at the end of a run that is asked for step by step; choose takes the next one that ends."""
    calls = [begin(flags)]
    running = []
    rows = after(text, *calls)
    while True:
        count = rows[-1][1]
        running += rows[-1][2:2 + count]
        if not running:
            return after(text, *calls, STAND)[-1]
        number = choose(running)
        running.remove(number)
        calls.append(ends(number, 1 - (failures >> number & 1)))
        rows = after(text, *calls)


class OtherOrders(unittest.TestCase):
    def compare(self, text, flags, failures, choose):
        expected = after(text, forecast(flags, failures))[0]
        self.assertEqual(ended_in_order(text, flags, failures, choose), expected, (text, flags, failures))

    def test_every_failure_first_last_and_any_order(self):
        source = random.Random(5)
        for failures in range(0, 256, 5):
            flags = failures % 4
            for choose in (min, max, source.choice, source.choice):
                self.compare(MIXED, flags, failures, choose)

    def test_all_orders_of_four(self):
        text = "job a\njob b\njob c\nsoft\njob d\njob e\nneeds a b\njob f\nneeds e c\nwhen bad or ok\njob g\nneeds f d\nwhen bad\n"
        for order in itertools.permutations(range(4)):
            for failures in (0, 1, 6, 9, 15, 85, 127):
                ranks = {number: place for place, number in enumerate(order)}
                self.compare(text, 0, failures, lambda running: min(running, key=lambda n: ranks.get(n, n)))


if __name__ == "__main__":
    unittest.main()
