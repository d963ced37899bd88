"""ever: whether an instance can run at all, and with which failures and flags."""

import unittest

from tests.helper import after, ask, begin, ends, ever, forecast, read, read_one, STAND

HIGHEST = 4294967295


def tried_one_by_one(text, number):
    """What ever answers, found by asking the forecast for all failures and flags."""
    count, flags = read_one(text)[2:]
    every = [(failures, up) for failures in range(2 ** count) for up in range(2 ** flags)]
    for start in range(0, len(every), 50):
        part = every[start:start + 50]
        rows = after(text, *[forecast(up, failures) for failures, up in part])
        for (failures, up), row in zip(part, rows):
            if row[1 + number] != 4:
                return [1, failures, up]
    return [0]


class Ever(unittest.TestCase):
    def told(self, text, number, *expected):
        self.assertEqual(after(text, ever(number)), [list(expected)], (text, number))

    def test_without_conditions(self):
        self.told("job a\njob b\nneeds a\n", 0, 1, 0, 0)
        self.told("job a\njob b\nneeds a\n", 1, 1, 0, 0)

    def test_never(self):
        self.told("job a\nwhen bad\n", 0, 0)
        self.told("job a\nwhen bad\njob b\nneeds a\n", 1, 0)
        self.told("job a\njob b\nneeds a\nwhen ok and bad\n", 1, 0)
        self.told("job a\nsoft\njob b\nneeds a\nwhen bad\n", 1, 0)
        self.told("job a\naxis x 1 2\nwhen x=3\n", 1, 0)
        self.told("job a\nwhen flag f and not flag f\n", 0, 0)

    def test_pairs(self):
        text = "job a\naxis x 1 2\nwhen x=2\n"
        self.told(text, 0, 0)
        self.told(text, 1, 1, 0, 0)

    def test_failures(self):
        self.told("job a\njob b\nneeds a\nwhen bad\n", 1, 1, 1, 0)
        self.told("job z\njob a\njob b\nneeds a\nwhen bad\n", 2, 1, 2, 0)
        self.told("job b\nneeds a\nwhen bad\njob z\njob a\n", 0, 1, 4, 0)

    def test_the_least_failures_as_a_number_not_the_fewest(self):
        # It runs if c fails, worth 4, or if a and b fail, worth 3; not if only one of these does.
        text = "job a\njob b\nneeds a\nwhen bad\njob c\njob d\nneeds b c\nwhen bad and not ok\n"
        self.told(text, 3, 1, 3, 0)
        self.assertEqual([row[4] for row in after(text, *[forecast(0, failures) for failures in range(5)])], [4, 4, 4, 2, 2])

    def test_several_that_must_fail(self):
        self.told("job a\njob b\njob c\nneeds a\nwhen bad\njob d\nneeds b\nwhen bad\njob e\nneeds c d\n", 4, 1, 3, 0)
        self.told("job a\njob b\nneeds a\nwhen always\njob c\nneeds b\nwhen bad and not ok\n", 2, 1, 2, 0)
        self.told("job a\njob b\nneeds a\nwhen bad\njob c\nneeds b\nwhen bad and not ok\n", 2, 1, 3, 0)
        self.told("job a\nwhen flag f\njob b\nneeds a\nwhen bad\njob c\nneeds b\nwhen bad and not ok\n", 2, 1, 3, 1)

    def test_flags(self):
        text = "job a\nwhen flag p and flag r or flag q and flag r\n"
        self.told(text, 0, 1, 0, 3)
        self.told("job a\nwhen flag p or flag q or flag r\n", 0, 1, 0, 1)
        self.told("job a\nwhen not flag p and flag q and flag r\n", 0, 1, 0, 6)
        self.told("job a\nwhen flag p and flag q and flag r\n", 0, 1, 0, 7)
        self.told("job a\nwhen not flag p\n", 0, 1, 0, 0)

    def test_few_failures_go_ahead_of_few_flags(self):
        text = "job a\njob b\nneeds a\nwhen bad or flag p and flag q and flag r\n"
        self.told(text, 1, 1, 0, 7)
        text = "job a\njob b\nneeds a\nwhen bad and not flag p and flag q\n"
        self.told(text, 1, 1, 1, 2)

    def test_flags_of_those_above_it(self):
        text = "job a\nwhen flag p\njob b\nwhen flag q\njob c\nneeds b\n"
        self.told(text, 2, 1, 0, 2)

    def test_those_that_are_not_above_have_no_part(self):
        self.told("job a\nwhen bad\njob b\nneeds c\nwhen bad\njob c\njob d\nneeds b\njob e\nneeds a\n", 1, 1, 4, 0)

    def test_soft_ones_above_it_fail_for_nothing(self):
        self.told("job a\nsoft\njob b\nneeds a\njob c\nneeds a b\nwhen bad\n", 2, 1, 2, 0)
        self.told("job a\nsoft\njob b\nneeds a\nwhen not ok\n", 1, 0)

    def test_the_highest_instances(self):
        text = "".join(f"job {name}\naxis x 1 2 3\n" for name in "abcdefg") + "job h\naxis x 1 2 3\nbeside g\nwhen bad\n"
        self.told(text, 23, 1, 2 ** 20, 0)
        self.told(text, 21, 1, 2 ** 18, 0)

    def test_it_leaves_the_run_alone(self):
        text = "job a\njob b\nneeds a\nwhen bad\n"
        rows = after(text, begin(0), ends(0, 1), ever(1), STAND, ever(0), STAND)
        self.assertEqual(rows[2:], [[1, 1, 0], [1, 2, 4], [1, 0, 0], [1, 2, 4]])


class Refusals(unittest.TestCase):
    def test_no_instance(self):
        self.assertEqual(ask(ever(0), ever(1), ever(HIGHEST)), [[-2], [-2], [-2]])
        self.assertEqual(after("job a\n", ever(1), ever(2), ever(HIGHEST)), [[-2], [-2], [-2]])

    def test_five_and_six_above(self):
        for condition, five in (("ok", [1, 0, 0]), ("bad", [1, 1, 0]), ("bad and ok", [0])):
            flat = "job a\naxis x 1 2 3 4 {}\njob b\nneeds a\nwhen " + condition + "\n"
            self.assertEqual(after(flat.format("\nmore x=5"), ever(5)), [five])
            self.assertEqual(after(flat.format("\nmore x=5\nmore x=6"), ever(6)), [[-6]])

    def test_five_and_six_above_in_a_row(self):
        text = "job a\n" + "".join(f"job {name}\nneeds {above}\n" for above, name in zip("abcdef", "bcdefg"))
        rows = after(text, ever(4), ever(5), ever(6))
        self.assertEqual(rows, [[1, 0, 0], [1, 0, 0], [-6]])

    def test_above_are_counted_once(self):
        text = ("job a\njob b\nneeds a\njob c\nneeds a\njob d\nneeds a b c\njob e\nneeds a b c d\n"
                "job f\nneeds a b c d e\nbeside a b c d e\nwhen bad\njob g\nneeds f\n")
        self.assertEqual(after(text, ever(5), ever(6)), [[1, 1, 0], [-6]])

    def test_more_than_five_elsewhere_are_no_hindrance(self):
        text = "".join(f"job {name}\naxis x 1 2 3\n" for name in "bcdefg") + "job a\njob h\nneeds a\nwhen bad\n"
        self.assertEqual(after(text, ever(19), ever(18)), [[1, 2 ** 18, 0], [1, 0, 0]])

    def test_many_instances_of_one_job_are_no_hindrance_beside(self):
        text = "job a\naxis x 1 2 3 4\naxis y 1 2\njob b\naxis x 1 2 3 4\nbeside a\njob c\nneeds b\njob d\naxis x 1\nbeside b\n"
        self.assertEqual(after(text, ever(8), ever(12), ever(13)), [[1, 0, 0], [-6], [1, 0, 0]])


class OneByOne(unittest.TestCase):
    TEXTS = (
        "job a\naxis x 1 2\njob b\nneeds a\nwhen bad\njob c\nneeds b\nwhen bad and flag f\njob d\nneeds c\nwhen not ok and bad\n",
        "job a\nsoft\njob b\nneeds a\nwhen flag f\njob c\nneeds a\nwhen not flag f\njob d\nneeds b c\nwhen bad or ok\njob e\n"
        "needs d\nwhen not bad and not ok\n",
        "job e\nneeds d c\nwhen bad and not flag p\njob d\nneeds a b\njob c\nneeds b\nwhen bad\njob b\nwhen flag q\njob a\n"
        "when not flag p and flag r or flag p\n",
        "job a\naxis x 1 2\naxis y 1 2\nless x=1 y=2\njob b\naxis x 1 2\nbeside a\nwhen bad or x=1 and flag f\njob c\nneeds b\n"
        "when bad and not ok and not flag f\n",
        "job a\njob b\nneeds a\nwhen always\njob c\nneeds b\nwhen always\njob d\nneeds c\nwhen always\njob e\nneeds d\n"
        "when always\njob f\nneeds e\nwhen bad and not ok and flag p and not flag q and flag r\n",
        "job a\njob b\nneeds a\nwhen bad\njob c\njob d\nneeds b c\nwhen bad and not ok\njob e\nneeds d\nwhen not ok and ok\n",
        "job a\nsoft\njob b\nneeds a\nwhen bad\njob c\nneeds b\njob d\nneeds c\nwhen bad or flag p and flag q\n",
        "job a\naxis x 1 2 3\njob b\naxis x 1 2 3\nbeside a\njob c\nneeds b\n",
    )

    def test_all_failures_and_flags(self):
        found = []
        for text in self.TEXTS:
            for number in range(read_one(text)[2]):
                answer = after(text, ever(number))[0]
                found.append(answer[0])
                if answer != [-6]:
                    self.assertEqual(answer, tried_one_by_one(text, number), (text, number))
        self.assertEqual(set(found), {0, 1, -6})


if __name__ == "__main__":
    unittest.main()
