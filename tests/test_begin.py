"""begin: conditions, instances that are left out at once, the conclusion; and where instances stand in a run."""

import unittest

from jobways.pipelines import Pipeline
from jobways.reading import drafted
from jobways.running import whole_run
from jobways.runs import House
from tests.helper import ask, begin, begin_after, read, read_one


def house_with(text):
    house = House()
    taken = house.read(list(text.encode()))
    assert taken[0] == 0, taken
    return house


def run_of(text, stands, flags=0):
    """A run whose instances stand as told."""
    draft = drafted(list(text.encode()))
    assert draft.fault == 0
    run = whole_run(Pipeline(draft.jobs, draft.flags), flags)
    run.stands = list(stands)
    return run


class Begin(unittest.TestCase):
    def begun(self, text, flags, *expected):
        with self.subTest(text=text, flags=flags):
            self.assertEqual(begin_after(text, flags), list(expected))

    def holds(self, condition, flags=0, job="job a\naxis x 1\nmore e=5\n"):
        """Does the condition of an instance that needs nothing hold?"""
        answer = begin_after(job + "when " + condition, flags)
        self.assertIn(answer, ([0, 1, 0], [1, 0, 0]))
        return answer == [0, 1, 0]

    def test_without_jobs(self):
        self.assertEqual(ask(begin(0)), [[1, 0]])
        self.begun("", 0, 1, 0)

    def test_those_that_need_nothing_run(self):
        self.begun("job a\naxis x 1 2\njob b\nneeds a\njob c\n", 0, 0, 3, 0, 1, 3)

    def test_those_that_need_one_below_wait(self):
        self.begun("job a\nneeds b\njob b\n", 0, 0, 1, 1)

    def test_a_job_without_instances_holds_up_nobody(self):
        self.begun("job a\naxis x 1\nless x=1\njob b\nneeds a\n", 0, 0, 1, 0)
        self.begun("job a\naxis x 1\njob b\naxis x 2\nbeside a\n", 0, 0, 2, 0, 1)

    def test_ok_bad_always(self):
        self.assertTrue(self.holds("ok"))
        self.assertFalse(self.holds("bad"))
        self.assertTrue(self.holds("always"))

    def test_pairs(self):
        self.assertTrue(self.holds("x=1"))
        self.assertTrue(self.holds("e=5"))
        self.assertFalse(self.holds("x=2"))
        self.assertFalse(self.holds("e=1"))
        self.assertFalse(self.holds("y=1"))

    def test_a_pair_is_asked_of_each_instance(self):
        self.begun("job a\naxis x 1 2 3\nwhen x=2 or x=3\n", 0, 0, 2, 1, 2, 0)
        self.begun("job a\naxis x 1 2\nmore x=1 e=2\nmore e=3\nwhen e=2\n", 0, 1, 0, 0, 1)

    def test_flags(self):
        text = "job a\nwhen flag p\njob b\nwhen flag q and flag p\njob c\nwhen flag r or flag q\n"
        self.begun(text, 0, 1, 0, 0, 1, 2)
        self.begun(text, 1, 0, 1, 0, 1, 2)
        self.begun(text, 2, 0, 1, 2, 0, 1)
        self.begun(text, 3, 0, 3, 0, 1, 2)
        self.begun(text, 4, 0, 1, 2, 0, 1)
        self.begun(text, 7, 0, 3, 0, 1, 2)

    def test_flags_are_numbered_as_they_are_first_named(self):
        text = "job a\nwhen not (flag z and (flag m or flag z))\njob b\nwhen flag a\njob c\nwhen flag m\n"
        self.begun(text, 1, 1, 0, 0, 1, 2)
        self.begun(text, 2, 0, 2, 0, 2, 1)
        self.begun(text, 3, 0, 1, 2, 0, 1)
        self.begun(text, 4, 0, 2, 0, 1, 2)

    def test_not_and_or(self):
        self.assertFalse(self.holds("not ok"))
        self.assertTrue(self.holds("not not ok"))
        self.assertTrue(self.holds("ok and always"))
        self.assertFalse(self.holds("ok and bad"))
        self.assertFalse(self.holds("bad and ok"))
        self.assertTrue(self.holds("ok or bad"))
        self.assertTrue(self.holds("bad or ok"))
        self.assertFalse(self.holds("bad or bad"))

    def test_how_close_they_bind(self):
        self.assertTrue(self.holds("ok or ok and bad"))
        self.assertFalse(self.holds("(ok or ok) and bad"))
        self.assertTrue(self.holds("bad and bad or ok"))
        self.assertFalse(self.holds("bad and (bad or ok)"))
        self.assertTrue(self.holds("not bad or ok"))
        self.assertFalse(self.holds("not (bad or ok)"))
        self.assertFalse(self.holds("not bad and bad"))
        self.assertTrue(self.holds("not (bad and bad)"))

    def test_every_condition_of_three_flags(self):
        for condition, told in (
            ("flag a and flag b or flag c", lambda a, b, c: a and b or c),
            ("flag a or flag b and flag c", lambda a, b, c: a or b and c),
            ("not flag a or flag b and not flag c", lambda a, b, c: not a or b and not c),
            ("not (flag a or flag b) and flag c", lambda a, b, c: not (a or b) and c),
            ("flag a and (flag b or not flag c)", lambda a, b, c: a and (b or not c)),
        ):
            for flags in range(8):
                up = [bool(flags >> place & 1) for place in range(3)]
                self.assertEqual(self.holds(condition, flags), bool(told(*up)), (condition, flags))

    def test_those_that_this_brings_on(self):
        self.begun("job a\nwhen bad\njob b\nneeds a\njob c\nneeds b\nwhen always\njob d\nneeds c\n", 0, 0, 1, 2, 0, 1)
        self.begun("job d\nneeds c\njob c\nneeds b\njob b\nneeds a\njob a\nwhen bad\n", 0, 1, 0, 0, 1, 2, 3)
        self.begun("job a\nwhen bad\njob b\nneeds a\nwhen not ok\njob c\nneeds a\n", 0, 0, 1, 1, 0, 2)

    def test_left_out_is_not_bad(self):
        self.begun("job a\nwhen bad\njob b\nneeds a\nwhen bad\n", 0, 1, 0, 0, 1)

    def test_one_that_still_needs_another_waits(self):
        self.begun("job a\nwhen bad\njob b\njob c\nneeds a b\nwhen always\n", 0, 0, 1, 1, 0)

    def test_running_and_left_out_are_rising(self):
        text = "job e\nneeds a\njob d\nwhen always\nneeds a\njob c\njob b\nneeds e\njob a\nwhen bad\n"
        self.begun(text, 0, 0, 2, 1, 2, 0, 3, 4)

    def test_conclusion_where_all_are_left_out(self):
        self.begun("job a\nwhen bad\njob b\nneeds a\n", 0, 1, 0, 0, 1)

    def test_flags_too_high(self):
        for names in range(4):
            condition = " or ".join(["ok"] + [f"flag f{number}" for number in range(names)])
            text = "job a\nwhen " + condition + "\n"
            self.assertEqual(read_one(text)[3], names)
            self.assertEqual(begin_after(text, (1 << names) - 1), [0, 1, 0])
            for flags in (1 << names, (1 << names) + 1, 16, 4294967295):
                self.assertEqual(begin_after(text, flags), [-3])
        self.assertEqual(ask(begin(1)), [[-3]])

    def test_a_begin_behind_a_begin(self):
        text = "job a\nwhen flag x\njob b\nneeds a\nwhen not ok\n"
        self.assertEqual(ask(read(text), begin(1), begin(0), begin(1), begin(2), begin(0))[1:],
                         [[0, 1, 0], [0, 1, 1, 0], [0, 1, 0], [-3], [0, 1, 1, 0]])


class HouseRun(unittest.TestCase):
    def test_no_run_at_the_beginning_and_behind_a_read(self):
        house = House()
        self.assertIsNone(house.run)
        house.begin(0)
        self.assertIsNotNone(house.run)
        house.read(list(b"job a\n"))
        self.assertIsNone(house.run)

    def test_a_refused_read_leaves_the_run(self):
        house = house_with("job a\njob b\nneeds a\njob c\nwhen bad\n")
        house.begin(0)
        pipeline, run = house.pipeline, house.run
        for bad in (b"foo", b"job a\nneeds a\n", b"job a\nneeds b\n"):
            self.assertEqual(house.read(list(bad))[0], -1)
            self.assertIs(house.pipeline, pipeline)
            self.assertIs(house.run, run)
            self.assertEqual(house.run.stands, [1, 0, 4])

    def test_a_refused_begin_leaves_the_run(self):
        house = house_with("job a\nwhen flag x\n")
        house.begin(1)
        run = house.run
        self.assertEqual(house.begin(2), [-3])
        self.assertIs(house.run, run)
        self.assertEqual(house.run.stands, [1])

    def test_a_begin_forgets_the_former_run(self):
        house = house_with("job a\nwhen flag x\njob b\nneeds a\n")
        house.begin(1)
        house.run.stands[0] = 2
        self.assertEqual(house.begin(0), [1, 0, 0, 1])
        self.assertEqual(house.run.stands, [4, 4])

    def test_asking_changes_no_run(self):
        house = house_with("job a\njob b\nneeds a\n")
        house.begin(0)
        for answer in (house.written(), house.label(0), house.needs(1), house.label(7), house.needs(7)):
            self.assertEqual(house.run.stands, [1, 0])
        house.needs(1).append(5)
        self.assertEqual(house.needs(1), [0, 0])


class Stands(unittest.TestCase):
    """What follows from where others stand, beyond what a begin alone brings about."""

    THREE = "job a\njob b\nneeds a\nwhen always\njob c\nneeds b\nwhen "

    def moved(self, text, stands, after):
        run = run_of(text, stands)
        moved = run.move_on()
        self.assertEqual(run.stands, after)
        self.assertEqual(moved, [number for number, stand in enumerate(after) if stand != stands[number]])

    def test_ok_asks_for_passed_or_failed_soft(self):
        for stand, after in ((2, 1), (3, 4), (4, 4), (5, 1)):
            self.moved("job a\njob b\nneeds a\n", [stand, 0], [stand, after])

    def test_ok_asks_all_that_it_needs(self):
        text = "job a\njob b\njob c\nneeds a b\n"
        for first in (2, 3, 4, 5):
            for second in (2, 3, 4, 5):
                after = 1 if first in (2, 5) and second in (2, 5) else 4
                self.moved(text, [first, second, 0], [first, second, after])

    def test_ok_asks_only_what_it_needs_itself(self):
        self.moved(self.THREE + "ok", [3, 2, 0], [3, 2, 1])

    def test_bad_asks_all_above(self):
        self.moved(self.THREE + "bad", [3, 2, 0], [3, 2, 1])
        self.moved(self.THREE + "bad", [2, 3, 0], [2, 3, 1])
        self.moved(self.THREE + "bad", [2, 2, 0], [2, 2, 4])
        self.moved(self.THREE + "bad", [5, 2, 0], [5, 2, 4])
        self.moved(self.THREE + "bad", [4, 5, 0], [4, 5, 4])

    def test_bad_asks_none_beside(self):
        self.moved("job a\njob b\njob c\nneeds b\nwhen bad\n", [3, 2, 0], [3, 2, 4])

    def test_nothing_is_looked_at_while_one_needed_waits_or_runs(self):
        self.moved("job a\njob b\njob c\nneeds a b\nwhen always\n", [2, 1, 0], [2, 1, 0])
        self.moved("job a\nneeds b\nwhen always\njob b\njob c\nneeds a\nwhen always\n", [0, 1, 0], [0, 1, 0])

    def test_what_ran_or_ended_is_not_looked_at_again(self):
        self.moved("job a\njob b\nneeds a\nwhen bad\n", [3, 2], [3, 2])
        self.moved("job a\njob b\nneeds a\n", [3, 1], [3, 1])
        self.moved("job a\njob b\nneeds a\n", [2, 4], [2, 4])

    def test_one_left_out_brings_on_others(self):
        text = "job a\njob b\nneeds a\njob c\nneeds b\nwhen bad\njob d\nneeds b\n"
        self.moved(text, [3, 0, 0, 0], [3, 4, 1, 4])

    def test_conclusion(self):
        text = "job a\njob b\njob c\n"
        for stands, conclusion in (([2, 2, 2], 1), ([4, 5, 2], 1), ([5, 5, 5], 1), ([4, 4, 4], 1), ([2, 3, 2], 2),
                                   ([3, 4, 5], 2), ([3, 1, 2], 0), ([3, 0, 2], 0), ([1, 2, 2], 0), ([0, 2, 2], 0)):
            self.assertEqual(run_of(text, stands).conclusion(), conclusion, stands)


if __name__ == "__main__":
    unittest.main()
