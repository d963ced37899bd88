"""label and needs: combinations, instances, what an instance needs."""

import unittest

from tests.helper import ask, label, labels_after, needs, needs_after, read


class Labels(unittest.TestCase):
    def labels(self, text, *expected):
        with self.subTest(text=text):
            self.assertEqual(labels_after(text), list(expected))

    def test_a_job_without_axes(self):
        self.labels("job a\njob long-name-1\n", "a", "long-name-1")

    def test_the_last_axis_changes_fastest(self):
        self.labels("job a\naxis x 2 1\naxis y p q r\n",
                    "a (2, p)", "a (2, q)", "a (2, r)", "a (1, p)", "a (1, q)", "a (1, r)")
        self.labels("job a\naxis x 1 2\naxis y 3 4\naxis z 5 6\n",
                    "a (1, 3, 5)", "a (1, 3, 6)", "a (1, 4, 5)", "a (1, 4, 6)",
                    "a (2, 3, 5)", "a (2, 3, 6)", "a (2, 4, 5)", "a (2, 4, 6)")

    def test_less_with_one_pair(self):
        self.labels("job a\naxis x 1 2\naxis y 3 4\nless y=3\n", "a (1, 4)", "a (2, 4)")

    def test_less_with_all_pairs(self):
        self.labels("job a\naxis x 1 2\naxis y 3 4\nless y=3 x=2\n", "a (1, 3)", "a (1, 4)", "a (2, 4)")

    def test_several_lesses_each_by_itself(self):
        self.labels("job a\naxis x 1 2\naxis y 3 4\nless x=1 y=3\nless x=2 y=4\n", "a (1, 4)", "a (2, 3)")

    def test_less_of_all(self):
        self.labels("job a\naxis x 1 2\nless x=1\nless x=2\njob b\n", "b")

    def test_more_that_fits_adds_its_other_pairs(self):
        self.labels("job a\naxis x 1 2\naxis y 3 4\nmore x=1 e=new f=too\n",
                    "a (1, 3, new, too)", "a (1, 4, new, too)", "a (2, 3)", "a (2, 4)")

    def test_more_with_axis_pairs_among_the_others(self):
        self.labels("job a\naxis x 1 2\nmore e=5 x=2 f=6\n", "a (1)", "a (2, 5, 6)")

    def test_more_without_an_axis_fits_to_all(self):
        self.labels("job a\naxis x 1 2\nmore e=5\n", "a (1, 5)", "a (2, 5)")

    def test_more_of_axis_pairs_alone_that_fits_adds_nothing(self):
        self.labels("job a\naxis x 1 2\nmore x=2\n", "a (1)", "a (2)")

    def test_more_that_fits_to_none_is_a_new_combination(self):
        self.labels("job a\naxis x 1 2\nmore x=3\n", "a (1)", "a (2)", "a (3)")
        self.labels("job a\naxis x 1 2\naxis y 3 4\nmore e=7 y=9 x=1\n",
                    "a (1, 3)", "a (1, 4)", "a (2, 3)", "a (2, 4)", "a (7, 9, 1)")

    def test_more_that_names_what_a_less_took(self):
        self.labels("job a\naxis x 1 2\nless x=1\nmore x=1 e=5\n", "a (2)", "a (1, 5)")

    def test_later_mores_do_not_add_to_new_ones(self):
        self.labels("job a\naxis x 1 2\nmore x=3 e=1\nmore x=3 f=2\nmore g=4\n",
                    "a (1, 4)", "a (2, 4)", "a (3, 1)", "a (3, 2)")

    def test_new_ones_stand_behind_all_others(self):
        self.labels("job a\naxis x 1 2\nmore x=3\nmore x=2 e=5\njob b\n", "a (1)", "a (2, 5)", "a (3)", "b")

    def test_an_added_pair_takes_the_place_of_one_with_its_name(self):
        self.labels("job a\naxis x 1 2\nmore e=5 f=6\nmore x=2 e=7\n", "a (1, 5, 6)", "a (2, 7, 6)")
        self.labels("job a\naxis x 1\nmore e=5 f=6\nmore g=8 e=7\n", "a (1, 7, 6, 8)")
        self.labels("job a\naxis x 1 2\nmore x=1 e=5\nmore e=6\nmore x=2 f=3 e=4\n", "a (1, 6)", "a (2, 4, 3)")

    def test_added_pairs_do_not_make_a_later_more_fit(self):
        self.labels("job a\naxis x 1 2\nmore x=1 e=5\nmore e=9 f=1\n", "a (1, 9, 1)", "a (2, 9, 1)")

    def test_mores_without_axes(self):
        self.labels("job a\nmore x=1\nmore x=2 y=3\n", "a (1)", "a (2, 3)")
        self.labels("job a\nmore x=1\nmore x=1\n", "a (1)", "a (1)")
        self.labels("job a\nmore x=1\nmore y=2\n", "a (1)", "a (2)")

    def test_mores_where_lesses_took_all(self):
        self.labels("job a\naxis x 1\nless x=1\nmore e=1\nmore f=2\n", "a (1)", "a (2)")

    def test_no_such_instance(self):
        for text, count in (("", 0), ("job a\n", 1), ("job a\naxis x 1 2\njob b\n", 3)):
            for number in (count, count + 1, 4294967295):
                self.assertEqual(ask(read(text), label(number))[1], [-2])
        self.assertEqual(ask(label(0)), [[-2]])


class Needs(unittest.TestCase):
    def needed(self, text, *expected):
        with self.subTest(text=text):
            self.assertEqual(needs_after(text), list(expected))

    def test_none(self):
        self.needed("job a\njob b\n", [], [])

    def test_all_instances_of_the_jobs_that_needs_names(self):
        self.needed("job a\naxis x 1 2\njob b\njob c\naxis x 1 2\nneeds b a\n", [], [], [], [0, 1, 2], [0, 1, 2])

    def test_only_what_is_needed_itself(self):
        self.needed("job a\njob b\nneeds a\njob c\nneeds b\n", [], [0], [1])

    def test_jobs_below(self):
        self.needed("job a\nneeds c b\njob b\nneeds c\njob c\n", [1, 2], [2], [])

    def test_beside_those_that_agree(self):
        self.needed("job a\naxis x 1 2\naxis y 3 4\njob b\naxis x 1 2\nbeside a\n",
                    [], [], [], [], [0, 1], [2, 3])

    def test_beside_with_several_names_in_both(self):
        self.needed("job a\naxis x 1 2\naxis y 3 4\njob b\naxis y 4 3\naxis x 2\nbeside a\n",
                    [], [], [], [], [3], [2])

    def test_beside_without_a_name_in_both(self):
        self.needed("job a\naxis x 1 2\njob b\naxis y 1\nbeside a\njob c\nbeside a b\n", [], [], [0, 1], [0, 1, 2])

    def test_beside_where_none_agrees(self):
        self.needed("job a\naxis x 1 2\njob b\naxis x 3\nbeside a\n", [], [], [])

    def test_beside_asks_added_pairs_too(self):
        self.needed("job a\naxis x 1 2\nmore x=2 e=5\njob b\naxis e 5 6\nbeside a\n", [], [], [0, 1], [0])
        self.needed("job a\naxis x 1\nmore x=9 e=5\njob b\nmore e=5\nmore x=1\nmore x=9 e=6\nbeside a\n",
                    [], [], [0, 1], [0], [])

    def test_needs_and_beside_together(self):
        self.needed("job a\naxis x 1 2\njob b\naxis x 1 2\njob c\naxis x 2\nneeds a\nbeside b\n",
                    [], [], [], [], [0, 1, 3])
        self.needed("job a\naxis x 1 2\njob b\naxis x 2\nneeds a\nbeside a\n", [], [], [0, 1])

    def test_a_needed_job_without_instances(self):
        self.needed("job a\naxis x 1\nless x=1\njob b\nneeds a\n", [])

    def test_no_such_instance(self):
        for text, count in (("", 0), ("job a\n", 1), ("job a\naxis x 1 2\njob b\nneeds a\n", 3)):
            for number in (count, count + 1, 4294967295):
                self.assertEqual(ask(read(text), needs(number))[1], [-2])
        self.assertEqual(ask(needs(0)), [[-2]])


if __name__ == "__main__":
    unittest.main()
