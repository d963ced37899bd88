"""read: what it answers to a text without a fault, and to each fault with its line."""

import unittest

from tests.helper import begin, ask, label, labels_after, read, read_one, WRITTEN, written_after


def fault(line, number):
    return [-1, line, number]


class ReadCase(unittest.TestCase):
    def refused(self, text, line, number):
        with self.subTest(text=text):
            self.assertEqual(read_one(text), fault(line, number))

    def taken(self, text, jobs, instances, flags):
        with self.subTest(text=text):
            self.assertEqual(read_one(text), [0, jobs, instances, flags])


class Taken(ReadCase):
    def test_counts_of_jobs_instances_and_flags(self):
        self.taken("job a\naxis os linux mac\njob b\nneeds a\nwhen flag x and not flag y or flag x\n", 2, 3, 2)

    def test_empty_text(self):
        self.taken("", 0, 0, 0)

    def test_last_line_without_its_end(self):
        self.taken("job a", 1, 1, 0)
        self.taken("job a\njob b", 2, 2, 0)
        self.refused("job a\njob", 2, 3)

    def test_a_last_line_end_begins_no_further_line(self):
        self.taken("job a\n", 1, 1, 0)
        self.taken("\n", 0, 0, 0)

    def test_lines_without_words(self):
        self.taken("\n   \njob a\n\n \n  soft\n", 1, 1, 0)
        self.taken("   ", 0, 0, 0)
        self.refused("\n   \n\nfoo\n", 4, 2)

    def test_lines_with_a_hash(self):
        self.taken("# no job yet\n  #job a\n#(\njob a\n # soft ( % ~ A\n", 1, 1, 0)
        self.taken("#", 0, 0, 0)

    def test_a_hash_behind_the_first_word_is_no_remark(self):
        self.refused("job a # first\n", 1, 3)
        self.refused("job a\nsoft #\n", 2, 3)
        self.refused("(# a\n", 1, 2)

    def test_blanks_before_between_and_behind_words(self):
        self.taken("   job   a   \n axis   x  1    2 ", 1, 2, 0)

    def test_brackets_with_and_without_blanks(self):
        for condition in ("(ok)", "( ok )", "( ok)", "not(ok)", "not ( ok )", "(ok)and(bad)", "ok and(bad)or always",
                          "((ok))", "( (ok) )"):
            self.taken("job a\nwhen " + condition, 1, 1, 0)
        self.taken("job a\nwhen(ok)", 1, 1, 0)

    def test_a_bracket_is_a_word_by_itself_in_every_line(self):
        self.refused("job(a\n", 1, 3)
        self.refused("job a)\n", 1, 3)
        self.refused("(job a\n", 1, 2)
        self.refused("job a\naxis x 1(2\n", 2, 3)
        self.refused("job a\nsoft()\n", 2, 3)

    def test_names_and_values_at_their_longest(self):
        self.taken("job abcdefghijkl\naxis m23456789012 1.-456789012\n", 1, 1, 0)
        self.taken("job a\nmore m23456789012=123456789012\n", 1, 1, 0)
        self.taken("job a\nwhen flag m23456789012 or n23456789012=123456789012\n", 1, 1, 1)
        self.taken("job abcdefghijkl\njob b\nneeds abcdefghijkl\nbeside abcdefghijkl\n", 2, 2, 0)

    def test_names_and_values_at_their_shortest(self):
        self.taken("job a\naxis x - . 0\n", 1, 3, 0)
        self.taken("job a-\naxis z9- 1\n", 1, 1, 0)

    def test_words_of_the_text_are_names_too(self):
        self.taken("job job\naxis axis less\nless axis=more\nmore soft=when\njob not\nneeds job\nwhen flag and or flag not"
                   " and flag flag\n", 2, 2, 3)

    def test_a_job_may_need_one_below_it(self):
        self.taken("job a\nneeds c b\njob b\njob c\nbeside b\n", 3, 3, 0)

    def test_a_name_in_needs_and_beside_both(self):
        self.taken("job a\njob b\nneeds a\nbeside a\n", 2, 2, 0)

    def test_a_less_may_name_a_value_that_its_axis_lacks(self):
        self.taken("job a\naxis x 1 2\nless x=3\n", 1, 2, 0)

    def test_a_job_without_instances(self):
        self.taken("job a\naxis x 1\nless x=1\n", 1, 0, 0)

    def test_needs_and_the_like_stand_anywhere_in_a_job(self):
        self.taken("job b\njob a\nsoft\nwhen bad\nbeside b\nneeds b\naxis x 1\nless x=2\nmore y=1\n", 2, 2, 0)


class Fault1(ReadCase):
    def test_bytes_below_32(self):
        for byte in (0, 1, 9, 11, 13, 31):
            self.refused(list(b"job a\njob b") + [byte], 2, 1)

    def test_bytes_above_126(self):
        for byte in (127, 128, 200, 255):
            self.refused(list(b"job a\nsoft ") + [byte], 2, 1)

    def test_the_bytes_at_the_edge_are_none(self):
        self.taken("# ~ \n", 0, 0, 0)
        self.refused("~\n", 1, 2)

    def test_in_a_line_with_a_hash_and_in_one_of_blanks(self):
        self.refused("job a\n# \t\n", 2, 1)
        self.refused("#\x7f", 1, 1)
        self.refused("job a\n \t \n", 2, 1)

    def test_is_told_before_all_others(self):
        self.refused("foo\t\n", 1, 1)
        self.refused("job\r\n", 1, 1)
        self.refused("soft\xe4\n", 1, 1)


class Fault2(ReadCase):
    def test_an_unknown_first_word(self):
        for word in ("foo", "Job", "jobs", "a=b", "(", ")", "ok", "JOB", "x#", "when=1", "%", "."):
            self.refused("job a\n" + word + " b\n", 2, 2)

    def test_no_job_has_begun(self):
        for line in ("axis x 1", "less x=1", "more x=1", "needs a", "beside a", "when ok", "soft"):
            self.refused(line + "\njob a\n", 1, 2)
            above = "axis x 2\n" if line.startswith("less") else ""
            self.taken("job a\njob b\n" + above + line, 2, 2, 0)

    def test_is_told_before_the_others_but_1(self):
        self.refused("axis\n", 1, 2)
        self.refused("needs a a\n", 1, 2)
        self.refused("soft soft\n", 1, 2)
        self.refused("job\n", 1, 3)


class Fault3(ReadCase):
    def faulty(self, *lines):
        for line in lines:
            self.refused("job a\n" + line + "\n", 2, 3)

    def test_numbers_of_words(self):
        self.faulty("job", "job b c", "axis", "axis x", "less", "more", "needs", "beside", "when", "soft soft", "soft x")

    def test_names(self):
        self.faulty("job abcdefghijklm", "job 1a", "job -a", "job A", "job aB", "job a.b", "job a_b", "job a=b", "job a%")
        self.faulty("axis abcdefghijklm 1", "axis 1x 1", "axis x. 1", "axis X 1", "axis x=1 1")
        self.faulty("needs abcdefghijklm", "needs a 1b", "needs a.b", "beside a B", "beside -", "beside abcdefghijklm")

    def test_values(self):
        self.faulty("axis x 1234567890123", "axis x 1 A", "axis x 1 a_b", "axis x a=b", "axis x 1 +", "axis x 1 %")

    def test_pairs(self):
        for word in ("less", "more"):
            for pair in ("x", "x=", "=1", "=", "x=1=2", "x==1", "1x=1", "x=A", "X=1", "x = 1", "x= 1", "x=(1)", "x:1",
                         "abcdefghijklm=1", "x=1234567890123", "x.=1"):
                self.faulty(word + " " + pair, word + " y=1 " + pair)

    def test_pairs_at_the_edge(self):
        self.taken("job a\naxis abcdefghijkl 1\nless abcdefghijkl=123456789012\n", 1, 1, 0)

    def test_conditions(self):
        for condition in ("ok ok", "ok bad", "and", "or", "not", "(", ")", "()", "ok and", "and ok", "ok or", "or ok",
                          "ok and or bad", "ok not bad", "not and ok", "not", "not not", "(ok", "ok)", "((ok)",
                          "(ok))", ")ok(", "ok (bad)", "(ok) bad", "(ok)(bad)", "ok)(bad", "ok) and (bad", "ok) or not (bad", "(ok and) bad", "ok and ()",
                          "flag", "flag 1", "flag A", "flag x=1", "flag (x)", "flag x y", "flag abcdefghijklm",
                          "not flag", "x", "x=", "=1", "X=1", "x=1=1", "maybe", "OK", "ok, bad", "ok & bad",
                          "not ok not", "x=1 y=2", "flag x flag y", "ok and bad or", "#", "ok # x", "%"):
            self.faulty("when " + condition)

    def test_condition_pairs_at_the_edge(self):
        self.faulty("when abcdefghijklm=1", "when x=1234567890123")
        self.taken("job a\nwhen abcdefghijkl=123456789012", 1, 1, 0)

    def test_is_told_before_the_higher_ones(self):
        self.faulty("job a b", "axis x 1 1 A", "less y=1 y", "needs b b 1")
        self.refused("job a\nsoft\nsoft x\n", 3, 3)
        self.refused("job a\nwhen ok\nwhen\n", 3, 3)
        self.refused("job a\nneeds b\nneeds 1\n", 3, 3)
        self.refused("job a\nwhen " + "not " * 21 + "\n", 2, 3)
        self.refused("job a\nwhen " + "(" * 21 + "ok" + ")" * 20 + "\n", 2, 3)
        self.refused("job a\nmore x=1\naxis y\n", 3, 3)


class Fault4(ReadCase):
    def test_a_jobs_name(self):
        self.refused("job a\njob b\njob a\n", 3, 4)

    def test_an_axis_within_its_job(self):
        self.refused("job a\naxis x 1\naxis y 1\naxis x 2\n", 4, 4)
        self.taken("job a\naxis x 1\njob b\naxis x 1\n", 2, 2, 0)

    def test_a_value_within_its_axis(self):
        self.refused("job a\naxis x 1 2 1\n", 2, 4)
        self.taken("job a\naxis x 1 2\naxis y 1 2\n", 1, 4, 0)
        self.taken("job a\naxis x x a\n", 1, 2, 0)

    def test_a_name_within_a_less_or_a_more(self):
        self.refused("job a\naxis x 1 2\nless x=1 x=2\n", 3, 4)
        self.refused("job a\naxis x 1 2\nless x=1 x=1\n", 3, 4)
        self.refused("job a\nmore x=1 y=1 x=2\n", 2, 4)
        self.refused("job a\nmore x=1 x=1\n", 2, 4)
        self.taken("job a\naxis x 1 2\nless x=1\nless x=1\nmore x=2 y=1\nmore x=2 y=1\n", 1, 1, 0)
        self.taken("job a\nmore x=1 y=1\n", 1, 1, 0)

    def test_a_name_within_a_needs_or_beside(self):
        self.refused("job a\njob b\nneeds a a\n", 3, 4)
        self.refused("job a\njob b\nbeside a a\n", 3, 4)

    def test_a_second_needs_beside_when_or_soft(self):
        for line in ("needs a", "beside a", "when ok", "when bad", "soft"):
            self.refused("job a\njob b\n" + line + "\njob c\n" + line + "\n" + line, 6, 4)
        self.refused("job a\njob b\nneeds a\nneeds b\n", 4, 4)
        self.refused("job a\nwhen ok\nwhen bad\n", 3, 4)

    def test_is_told_before_the_higher_ones(self):
        self.refused("".join(f"job a{number}\n" for number in range(8)) + "job a0\n", 9, 4)
        self.refused("job a\naxis x 1\naxis y 1\naxis z 1\naxis x 2\n", 5, 4)
        self.refused("job a\naxis x 1 2 3 4 1\n", 2, 4)
        self.refused("job a\nmore a=1 b=1 c=1 d=1 a=1\n", 2, 4)
        self.refused("job a\nless y=1 y=1\n", 2, 4)
        self.refused("job a\naxis x 1\nmore x=1\naxis x 2\n", 4, 4)
        self.refused("job a\nwhen ok\nwhen " + "not " * 21 + "ok\n", 3, 4)
        self.refused("job a\nwhen ok\nwhen flag a or flag b or flag c or flag d\n", 3, 4)


class Fault5(ReadCase):
    def test_jobs(self):
        eight = "".join(f"job a{number}\n" for number in range(8))
        self.taken(eight, 8, 8, 0)
        self.refused(eight + "job b\n", 9, 5)

    def test_axes_of_a_job(self):
        three = "job a\naxis x 1\naxis y 1\naxis z 1\n"
        self.taken(three + "job b\naxis u 1\n", 2, 2, 0)
        self.refused(three + "axis u 1\n", 5, 5)

    def test_values_of_an_axis(self):
        self.taken("job a\naxis x 1 2 3 4\n", 1, 4, 0)
        self.refused("job a\naxis x 1 2 3 4 5\n", 2, 5)

    def test_lesses_and_mores_of_a_job(self):
        lesses = "job a\naxis x 1 2 3 4\n" + "".join(f"less x={number}\n" for number in range(4, 8))
        self.taken(lesses, 1, 3, 0)
        self.refused(lesses + "less x=1\n", 7, 5)
        mores = "".join(f"more y={number}\n" for number in range(4))
        self.taken(lesses + mores, 1, 3, 0)
        self.taken("job b\n" + mores, 1, 4, 0)
        self.refused("job b\n" + mores + "more z=1\n", 6, 5)
        self.taken(lesses + mores + "job c\naxis x 1\nless x=1\nmore z=1\n", 2, 4, 0)

    def test_pairs_of_a_less_or_a_more(self):
        self.taken("job a\nmore a=1 b=1 c=1 d=1\n", 1, 1, 0)
        self.refused("job a\nmore a=1 b=1 c=1 d=1 e=1\n", 2, 5)
        self.refused("job a\naxis a 1\naxis b 1\naxis c 1\nless a=1 b=1 c=1 d=1 e=1\n", 5, 5)
        self.refused("job a\naxis a 1\naxis b 1\naxis c 1\nless a=1 b=1 c=1 d=1\n", 5, 6)

    def test_not_and_brackets_of_a_condition(self):
        self.taken("job a\nwhen " + "not " * 20 + "ok\n", 1, 1, 0)
        self.refused("job a\nwhen " + "not " * 21 + "ok\n", 2, 5)
        self.taken("job a\nwhen " + "(" * 20 + "ok" + ")" * 20 + "\n", 1, 1, 0)
        self.refused("job a\nwhen " + "(" * 21 + "ok" + ")" * 21 + "\n", 2, 5)
        self.taken("job a\nwhen " + "not (" * 10 + "ok" + ")" * 10 + "\n", 1, 1, 0)
        self.refused("job a\nwhen not " + "not (" * 10 + "ok" + ")" * 10 + "\n", 2, 5)
        self.taken("job a\nwhen " + " and ".join(["(ok)"] * 10 + ["not bad"] * 10) + "\n", 1, 1, 0)
        self.refused("job a\nwhen " + " and ".join(["(ok)"] * 10 + ["not bad"] * 11) + "\n", 2, 5)

    def test_each_condition_is_counted_by_itself(self):
        row = "when " + "not " * 20 + "ok\n"
        self.taken("job a\n" + row + "job b\n" + row, 2, 2, 0)

    def test_the_word_not_is_counted_behind_flag_too(self):
        self.taken("job a\nwhen flag not and " + "not " * 19 + "ok\n", 1, 1, 1)
        self.refused("job a\nwhen flag not and " + "not " * 20 + "ok\n", 2, 5)

    def test_flags_of_all_whens(self):
        self.taken("job a\nwhen flag x or flag y or flag z or flag x\n", 1, 1, 3)
        self.refused("job a\nwhen flag x or flag y or flag z or flag u\n", 2, 5)
        two = "job a\nwhen flag x and flag y\njob b\n"
        self.taken(two + "when flag z or flag x\njob c\nwhen flag y\n", 3, 3, 3)
        self.refused(two + "when flag z\njob c\nwhen flag z and flag u\n", 6, 5)
        self.refused(two + "when flag z and flag u\n", 4, 5)

    def test_is_told_before_the_higher_ones(self):
        lesses = "job a\naxis x 1\n" + "less x=1\n" * 4
        self.refused(lesses + "less y=1\n", 7, 5)
        self.refused(lesses + "more y=1\nless x=1\n", 8, 5)
        self.refused("job a\naxis x 1\nless x=1\naxis y 1 2 3 4 5\n", 4, 5)


class Fault6(ReadCase):
    def test_a_less_that_names_no_axis(self):
        self.refused("job a\nless x=1\n", 2, 6)
        self.refused("job a\naxis x 1\nless x=1 y=1\n", 3, 6)
        self.refused("job a\naxis x 1\njob b\naxis y 1\nless x=1\n", 5, 6)

    def test_an_axis_told_below(self):
        self.refused("job a\nless x=1\naxis x 1\n", 2, 6)

    def test_a_more_may_name_what_is_no_axis(self):
        self.taken("job a\naxis x 1\nmore y=1\n", 1, 1, 0)

    def test_is_told_before_7(self):
        self.refused("job a\naxis x 1\nmore y=1\nless y=1\n", 4, 6)


class Fault7(ReadCase):
    def test_an_axis_behind_a_less(self):
        self.refused("job a\naxis x 1\nless x=2\naxis y 1\n", 4, 7)

    def test_an_axis_behind_a_more(self):
        self.refused("job a\nmore x=2\naxis y 1\n", 3, 7)

    def test_a_less_behind_a_more(self):
        self.refused("job a\naxis x 1\nmore x=2\nless x=1\n", 4, 7)

    def test_another_job_begins_anew(self):
        self.taken("job a\naxis x 1\nless x=2\nmore x=3\njob b\naxis y 1\nless y=2\n", 2, 3, 0)


class FirstFaultyLine(ReadCase):
    def test_the_first_line_with_a_fault_is_told(self):
        self.refused("job a\nsoft\nsoft\n\t\nfoo\n", 3, 4)
        self.refused("job a\n\nless x=1\njob\n", 3, 6)

    def test_a_line_goes_before_the_whole(self):
        self.refused("job a\nneeds b\njob c\nneeds c\nfoo\n", 5, 2)


class Fault8(ReadCase):
    def test_a_needs_or_beside_of_no_job(self):
        self.refused("job a\nneeds b\n", 2, 8)
        self.refused("job a\nbeside b\n", 2, 8)
        self.refused("job a\njob b\nneeds a c\n", 3, 8)

    def test_the_first_such_line(self):
        self.refused("job a\nbeside b\nneeds c\n", 2, 8)
        self.refused("job a\nneeds b\nbeside c\n", 2, 8)
        self.refused("job a\njob b\nbeside a\nneeds c\njob d\nneeds e\n", 4, 8)

    def test_is_told_before_9_and_10(self):
        self.refused("job a\nneeds a\njob b\nneeds c\n", 4, 8)
        self.refused("job a\naxis x 1 2 3 4\naxis y 1 2 3 4\naxis z 1 2\njob b\nneeds c\n", 6, 8)


class Fault9(ReadCase):
    def test_a_job_that_hangs_on_itself(self):
        self.refused("job a\nneeds a\n", 1, 9)
        self.refused("job a\nbeside a\n", 1, 9)

    def test_over_more_steps(self):
        self.refused("job a\nneeds b\njob b\nbeside c\njob c\nneeds a\n", 1, 9)

    def test_the_first_job_that_itself_is_in_the_circle(self):
        self.refused("job a\nneeds b\njob b\nneeds c\njob c\nneeds b\n", 3, 9)
        self.refused("\njob a\njob b\nneeds a\njob c\nneeds d\njob d\nbeside c\n", 5, 9)

    def test_two_ways_to_one_job_are_no_circle(self):
        self.taken("job a\nneeds b c\njob b\nneeds d\njob c\nbeside d\njob d\n", 4, 4, 0)

    def test_jobs_without_instances_count(self):
        self.refused("job a\naxis x 1\nless x=1\nneeds a\n", 1, 9)

    def test_is_told_before_10(self):
        self.refused("job b\naxis x 1 2 3 4\naxis y 1 2 3 4\naxis z 1 2\njob a\nneeds a\n", 5, 9)


class Fault10(ReadCase):
    def test_24_and_25_instances(self):
        text = "job a\naxis x 1 2 3 4\naxis y 1 2 3\naxis z 1 2\n"
        self.taken(text, 1, 24, 0)
        self.refused(text + "job b\n", 5, 10)
        self.refused("job b\n" + text, 2, 10)
        self.refused(text + "more z=3\n", 1, 10)

    def test_the_job_with_which_they_are_more(self):
        text = "job a\naxis x 1 2 3 4\naxis y 1 2 3\njob b\naxis x 1 2 3 4\naxis y 1 2 3\n"
        self.taken(text, 2, 24, 0)
        self.refused(text + "\njob c\njob d\n", 8, 10)
        self.taken(text + "\njob c\naxis x 1\nless x=1\n", 3, 24, 0)

    def test_the_largest_job(self):
        self.refused("job a\naxis x 1 2 3 4\naxis y 1 2 3 4\naxis z 1 2 3 4\n", 1, 10)


class LargeTexts(ReadCase):
    def test_a_condition_nested_as_deep_as_a_text_allows(self):
        start = "job a\nwhen "
        depth = (3000 - len(start) - 2) // 2
        text = start + "(" * depth + "ok" + ")" * depth
        self.assertLessEqual(len(text), 3000)
        self.refused(text, 2, 5)
        self.refused(text[:-1], 2, 3)
        self.refused(start + "(" * (3000 - len(start)), 2, 3)
        nots = (3000 - len(start) - 2) // 4
        self.refused(start + "not " * nots + "ok", 2, 5)
        self.refused(start + "not " * nots, 2, 3)

    def test_a_condition_as_long_as_a_text_allows(self):
        start = "job a\n  when "
        for between in ("and", "or"):
            count = (3000 - len(start) - 3) // (len(between) + 4)
            text = start + f"ok {between} " * count + "ok\n"
            self.assertLessEqual(len(text), 3000)
            self.taken(text, 1, 1, 0)
            self.assertEqual(written_after(text), text)
            self.assertEqual(ask(read(text), begin(0))[1], [0, 1, 0])
            self.refused(text[:-3] + "\n", 2, 3)

    def test_many_lines(self):
        self.taken("\n" * 3000, 0, 0, 0)
        self.refused("\n" * 2999 + "x", 3000, 2)
        self.refused("job a\nneeds" + " b" * 1400, 2, 4)


class Refused(ReadCase):
    def test_a_refused_read_leaves_the_pipeline(self):
        text = "job a\n  axis x 1 2\njob b\n  needs a\n  when flag f\n"
        for bad in ("foo", "job c\nneeds d\n", "job c\nneeds c\n", "job c\nsoft\nsoft\n", "\x00"):
            rows = ask(read(text), read(bad), WRITTEN, label(2), begin(1), begin(2))
            self.assertEqual(rows[1][0], -1)
            self.assertEqual(bytes(rows[2][1:]).decode(), text)
            self.assertEqual(rows[3:], [[0, ord("b")], [0, 2, 0, 1], [-3]])

    def test_a_refused_first_read_leaves_a_pipeline_without_jobs(self):
        self.assertEqual(ask(read("job a\nfoo\n"), WRITTEN, label(0)), [[-1, 2, 2], [0], [-2]])

    def test_the_next_read_takes_the_place_of_the_former(self):
        rows = ask(read("job a\nwhen flag x\njob b\n"), read("job c\n"), WRITTEN, label(1), begin(1))
        self.assertEqual(rows[1:], [[0, 1, 1, 0], [0] + list(b"job c\n"), [-2], [-3]])

    def test_labels_behind_a_read_are_of_the_new_pipeline(self):
        self.assertEqual(labels_after("job a\naxis x 1 2\n"), ["a (1)", "a (2)"])


if __name__ == "__main__":
    unittest.main()
