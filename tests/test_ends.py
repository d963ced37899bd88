"""ends and stand: how a run goes on, its conclusion, what is refused."""

import unittest

from tests.helper import after, ask, begin, ends, ever, forecast, label, needs, read, STAND, WRITTEN

CHAIN = "job a\njob b\nneeds a\njob c\nneeds b\n"
HIGHEST = 4294967295


class Ends(unittest.TestCase):
    def goes(self, text, flags, begun, *steps):
        """A run: what begin answers, then for each end what it answers and how all stand behind it."""
        calls = [begin(flags)]
        expected = [begun]
        for number, passed, answer, stands in steps:
            calls += [ends(number, passed), STAND]
            expected += [answer, [answer[0]] + stands]
        self.assertEqual(after(text, *calls), expected, text)

    def test_one_passes_the_next_begins(self):
        self.goes(CHAIN, 0, [0, 1, 0],
                  (0, 1, [0, 1, 1], [2, 1, 0]),
                  (1, 1, [0, 1, 2], [2, 2, 1]),
                  (2, 1, [1, 0], [2, 2, 2]))

    def test_one_fails_those_behind_it_are_left_out(self):
        self.goes(CHAIN, 0, [0, 1, 0], (0, 0, [2, 0, 1, 2], [3, 4, 4]))
        self.goes(CHAIN, 0, [0, 1, 0], (0, 1, [0, 1, 1], [2, 1, 0]), (1, 0, [2, 0, 2], [2, 3, 4]))

    def test_the_last_one_decides(self):
        self.goes("job a\n", 0, [0, 1, 0], (0, 1, [1, 0], [2]))
        self.goes("job a\n", 0, [0, 1, 0], (0, 0, [2, 0], [3]))
        self.goes("job a\nsoft\n", 0, [0, 1, 0], (0, 0, [1, 0], [5]))

    def test_any_number_but_0_is_passed(self):
        for passed in (1, 2, 3, 4, 256, 65536, 2 ** 31, HIGHEST):
            for soft in ("", "soft\n"):
                self.goes("job a\n" + soft + "job b\nneeds a\n", 0, [0, 1, 0], (0, passed, [0, 1, 1], [2, 1]))

    def test_it_waits_for_all_that_it_needs(self):
        text = "job a\njob b\njob c\nneeds a b\n"
        self.goes(text, 0, [0, 2, 0, 1], (1, 1, [0, 0], [1, 2, 0]), (0, 1, [0, 1, 2], [2, 2, 1]))
        self.goes(text, 0, [0, 2, 0, 1], (0, 0, [0, 0], [3, 1, 0]), (1, 1, [2, 0, 2], [3, 2, 4]))

    def test_it_waits_even_where_its_condition_is_sure(self):
        text = "job a\njob b\njob c\nneeds a b\nwhen always\n"
        self.goes(text, 0, [0, 2, 0, 1], (0, 1, [0, 0], [2, 1, 0]), (1, 0, [0, 1, 2], [2, 3, 1]), (2, 1, [2, 0], [2, 3, 2]))

    def test_a_failed_soft_one_is_ok_and_not_bad(self):
        text = "job a\nsoft\njob b\nneeds a\njob c\nneeds a\nwhen bad\njob d\nneeds c\nwhen bad\n"
        self.goes(text, 0, [0, 1, 0], (0, 0, [0, 1, 1, 2, 3], [5, 1, 4, 4]), (1, 1, [1, 0], [5, 2, 4, 4]))

    def test_soft_is_of_each_instance_of_its_job_alone(self):
        text = "job a\naxis x 1 2\nsoft\njob b\naxis x 1 2\nbeside a\njob c\nneeds b\nwhen bad\n"
        self.goes(text, 0, [0, 2, 0, 1],
                  (1, 0, [0, 1, 3], [1, 5, 0, 1, 0]),
                  (3, 0, [0, 0], [1, 5, 0, 3, 0]),
                  (0, 0, [0, 1, 2], [5, 5, 1, 3, 0]),
                  (2, 1, [0, 1, 4], [5, 5, 2, 3, 1]),
                  (4, 1, [2, 0], [5, 5, 2, 3, 2]))

    def test_a_soft_one_may_pass_or_be_left_out(self):
        self.goes("job a\nsoft\n", 0, [0, 1, 0], (0, 1, [1, 0], [2]))
        self.goes("job a\njob b\nneeds a\nsoft\n", 0, [0, 1, 0], (0, 0, [2, 0, 1], [3, 4]))

    def test_bad_asks_all_above_and_ok_only_what_it_needs(self):
        text = "job a\njob b\nneeds a\nwhen always\njob c\nneeds b\njob d\nneeds b\nwhen bad\n"
        self.goes(text, 0, [0, 1, 0], (0, 0, [0, 1, 1], [3, 1, 0, 0]), (1, 1, [0, 2, 2, 3], [3, 2, 1, 1]))
        self.goes(text, 0, [0, 1, 0], (0, 1, [0, 1, 1], [2, 1, 0, 0]), (1, 0, [0, 1, 3, 2], [2, 3, 4, 1]))
        self.goes(text, 0, [0, 1, 0], (0, 1, [0, 1, 1], [2, 1, 0, 0]), (1, 1, [0, 1, 2, 3], [2, 2, 1, 4]))

    def test_bad_does_not_ask_those_that_are_not_above(self):
        text = "job a\njob b\njob c\nneeds b\nwhen bad\n"
        self.goes(text, 0, [0, 2, 0, 1], (0, 0, [0, 0], [3, 1, 0]), (1, 1, [2, 0, 2], [3, 2, 4]))

    def test_one_left_out_is_neither_ok_nor_bad(self):
        text = "job a\njob b\nneeds a\nwhen bad\njob c\nneeds b\njob d\nneeds b\nwhen bad\njob e\nneeds b\nwhen not ok\n"
        self.goes(text, 0, [0, 1, 0], (0, 1, [0, 1, 4, 1, 2, 3], [2, 4, 4, 4, 1]))

    def test_those_left_out_let_others_begin_at_once(self):
        text = ("job f\nneeds e\nwhen bad\njob e\nneeds d\nwhen always and not bad\njob d\nneeds b\njob c\nneeds d\nwhen always\n"
                "job b\nneeds a\njob a\n")
        self.goes(text, 0, [0, 1, 5], (5, 0, [0, 2, 0, 3, 1, 2, 4], [1, 4, 4, 1, 4, 3]))
        self.goes(text, 0, [0, 1, 5],
                  (5, 1, [0, 1, 4], [0, 0, 0, 0, 1, 2]),
                  (4, 1, [0, 1, 2], [0, 0, 1, 0, 2, 2]),
                  (2, 1, [0, 2, 1, 3], [0, 1, 2, 1, 2, 2]),
                  (1, 1, [0, 0, 0], [4, 2, 2, 1, 2, 2]),
                  (3, 0, [2, 0], [4, 2, 2, 3, 2, 2]))

    def test_those_left_out_at_the_beginning_count_later(self):
        text = "job a\nwhen flag f\njob b\njob c\nneeds a b\njob d\nneeds a b\nwhen not ok and not bad\n"
        self.goes(text, 0, [0, 1, 1, 0], (1, 1, [0, 1, 3, 2], [4, 2, 4, 1]), (3, 1, [1, 0], [4, 2, 4, 2]))
        self.goes(text, 1, [0, 2, 0, 1], (1, 1, [0, 0], [1, 2, 0, 0]), (0, 1, [0, 1, 2, 3], [2, 2, 1, 4]))

    def test_flags_are_those_of_the_begin(self):
        text = "job a\njob b\nneeds a\nwhen flag p\njob c\nneeds a\nwhen flag q\njob d\nneeds a\nwhen flag r\n"
        for flags in range(8):
            begun = [1 + place for place in range(3) if flags >> place & 1]
            left_out = [number for number in (1, 2, 3) if number not in begun]
            answer = [0 if begun else 1, len(begun)] + begun + left_out
            self.goes(text, flags, [0, 1, 0], (0, 5, answer, [2] + [1 if n in begun else 4 for n in (1, 2, 3)]))

    def test_beside_waits_for_those_that_agree_alone(self):
        text = "job a\naxis x 1 2\njob b\naxis x 1 2\nbeside a\n"
        self.goes(text, 0, [0, 2, 0, 1],
                  (1, 1, [0, 1, 3], [1, 2, 0, 1]),
                  (0, 0, [0, 0, 2], [3, 2, 4, 1]),
                  (3, 1, [2, 0], [3, 2, 4, 2]))

    def test_the_conclusion_is_0_while_one_runs_even_if_one_failed(self):
        self.goes("job a\njob b\n", 0, [0, 2, 0, 1], (0, 0, [0, 0], [3, 1]), (1, 1, [2, 0], [3, 2]))


class Stand(unittest.TestCase):
    def test_without_jobs(self):
        self.assertEqual(ask(begin(0), STAND), [[1, 0], [1]])

    def test_behind_begin(self):
        self.assertEqual(after(CHAIN, begin(0), STAND, STAND), [[0, 1, 0], [0, 1, 0, 0], [0, 1, 0, 0]])
        self.assertEqual(after("job a\nwhen bad\njob b\nneeds a\nwhen always\njob c\nneeds b\n", begin(0), STAND)[1],
                         [0, 4, 1, 0])
        self.assertEqual(after("job a\nwhen bad\njob b\nneeds a\n", begin(0), STAND), [[1, 0, 0, 1], [1, 4, 4]])

    def test_twenty_four_instances(self):
        text = "".join(f"job {name}\naxis x 1 2 3\n" for name in "abcdefgh")
        rows = after(text, begin(0), *[ends(number, number % 5) for number in range(24)], STAND)
        self.assertEqual(rows[0], [0, 24] + list(range(24)))
        self.assertEqual(rows[-2], [2, 0])
        self.assertEqual(rows[-1], [2] + [3 if number % 5 == 0 else 2 for number in range(24)])


class Refusals(unittest.TestCase):
    def test_no_run_is_begun(self):
        self.assertEqual(ask(STAND, ends(0, 1)), [[-4], [-4]])
        self.assertEqual(after(CHAIN, STAND, ends(0, 1)), [[-4], [-4]])

    def test_no_run_goes_ahead_of_no_instance(self):
        self.assertEqual(ask(ends(0, 0), ends(HIGHEST, 1)), [[-4], [-4]])
        self.assertEqual(after(CHAIN, ends(3, 1), ends(HIGHEST, 0)), [[-4], [-4]])

    def test_a_refused_begin_begins_no_run(self):
        self.assertEqual(after(CHAIN, begin(1), STAND, ends(0, 1)), [[-3], [-4], [-4]])

    def test_asking_begins_no_run(self):
        self.assertEqual(after(CHAIN, forecast(0, 0), ever(0), STAND, ends(0, 1))[2:], [[-4], [-4]])

    def test_no_instance(self):
        for number in (3, 4, 24, 32, 2 ** 31, HIGHEST):
            for passed in (0, 1):
                self.assertEqual(after(CHAIN, begin(0), ends(number, passed), STAND)[1:], [[-2], [0, 1, 0, 0]])
        self.assertEqual(ask(begin(0), ends(0, 1)), [[1, 0], [-2]])

    def test_it_waits_so_it_does_not_run(self):
        self.assertEqual(after(CHAIN, begin(0), ends(1, 1), ends(2, 0), STAND)[1:], [[-5], [-5], [0, 1, 0, 0]])

    def test_it_has_ended_so_it_does_not_run(self):
        for passed in (0, 1):
            for again in (0, 1, 7):
                rows = after(CHAIN, begin(0), ends(0, passed), STAND, ends(0, again), STAND)
                self.assertEqual(rows[3], [-5])
                self.assertEqual(rows[2], rows[4])
        self.assertEqual(after("job a\nsoft\n", begin(0), ends(0, 0), ends(0, 1), STAND)[2:], [[-5], [1, 5]])

    def test_it_was_left_out_so_it_does_not_run(self):
        self.assertEqual(after("job a\nwhen bad\n", begin(0), ends(0, 1), ends(0, 0), STAND)[1:], [[-5], [-5], [1, 4]])
        self.assertEqual(after(CHAIN, begin(0), ends(0, 0), ends(1, 1), STAND)[2:], [[-5], [2, 3, 4, 4]])


class AllIsAsItWas(unittest.TestCase):
    TEXT = "job a\nwhen flag f or always\njob b\nneeds a\njob c\nneeds a\nwhen flag f\n"

    def test_a_refused_call_leaves_the_run(self):
        refused = [(read("foo"), [-1, 1, 2]), (read("job a\nneeds a\n"), [-1, 1, 9]), (read("job a\nneeds z\n"), [-1, 2, 8]),
                   (label(3), [-2]), (needs(3), [-2]), (begin(2), [-3]), (ends(3, 1), [-2]), (ends(0, 1), [-5]),
                   (forecast(2, 0), [-3]), (forecast(0, 8), [-3]), (ever(3), [-2])]
        plain = after(self.TEXT, begin(1), ends(0, 1), STAND, ends(1, 0), ends(2, 1), STAND, WRITTEN)
        for call, answer in refused:
            rows = after(self.TEXT, begin(1), ends(0, 1), call, STAND, ends(1, 0), ends(2, 1), STAND, WRITTEN)
            self.assertEqual(rows.pop(2), answer)
            self.assertEqual(rows, plain, call)

    def test_asking_leaves_the_run(self):
        plain = after(self.TEXT, begin(0), ends(0, 1), STAND, ends(1, 0), STAND)
        for call in (WRITTEN, label(0), needs(1), STAND, forecast(0, 0), forecast(1, 7), ever(0), ever(1), ever(2)):
            rows = after(self.TEXT, begin(0), ends(0, 1), call, STAND, ends(1, 0), STAND)
            self.assertGreaterEqual(rows.pop(2)[0], 0)
            self.assertEqual(rows, plain, call)

    def test_a_faulty_read_leaves_that_no_run_is_begun(self):
        self.assertEqual(after(CHAIN, read("foo"), STAND, ends(0, 1)), [[-1, 1, 2], [-4], [-4]])

    def test_a_read_that_is_taken_forgets_the_run(self):
        for text in (self.TEXT, CHAIN, ""):
            rows = after(self.TEXT, begin(1), ends(0, 1), read(text), STAND, ends(1, 1), ends(9, 1))
            self.assertEqual(rows[2][0], 0)
            self.assertEqual(rows[3:], [[-4], [-4], [-4]])

    def test_a_begin_forgets_the_former_run(self):
        rows = after(self.TEXT, begin(1), ends(0, 1), STAND, begin(0), STAND, ends(1, 1), ends(0, 0), STAND)
        self.assertEqual(rows, [[0, 1, 0], [0, 2, 1, 2], [0, 2, 1, 1], [0, 1, 0], [0, 1, 0, 0], [-5], [2, 0, 1, 2],
                                [2, 3, 4, 4]])

    def test_a_run_that_came_to_its_end_is_still_asked(self):
        rows = after("job a\n", begin(0), ends(0, 0), STAND, STAND, ends(0, 1), STAND, begin(0), STAND)
        self.assertEqual(rows[2:], [[2, 3], [2, 3], [-5], [2, 3], [0, 1, 0], [0, 1]])


if __name__ == "__main__":
    unittest.main()
