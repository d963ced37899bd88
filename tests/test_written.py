"""print (written): how a pipeline is written."""

import unittest

from tests.helper import ask, read, read_one, WRITTEN, written_after


def written_condition(condition):
    """The condition as it is written, or None if no when is."""
    text = written_after("job a\nwhen " + condition + "\n")
    start = "job a\n"
    assert text.startswith(start)
    rest = text[len(start):]
    if rest == "":
        return None
    assert rest.startswith("  when ") and rest.endswith("\n")
    return rest[len("  when "):-1]


class Lines(unittest.TestCase):
    def test_without_jobs(self):
        self.assertEqual(ask(WRITTEN), [[0]])
        self.assertEqual(written_after(""), "")
        self.assertEqual(written_after("# nothing\n\n"), "")

    def test_each_kind_of_line(self):
        text = (
            "job first\n"
            "job all\n"
            "  axis os linux mac win\n"
            "  axis v 1.0 2.0\n"
            "  less os=win v=1.0\n"
            "  less v=1.0 os=mac\n"
            "  more os=linux extra=yes\n"
            "  more os=bsd\n"
            "  needs zlast first\n"
            "  beside first zlast\n"
            "  when ok and flag nightly\n"
            "  soft\n"
            "job zlast\n"
        )
        self.assertEqual(written_after(text), text)

    def test_lines_are_put_in_order_and_words_parted_by_one_blank(self):
        told = ("#x\n  job   b\n\njob a\n soft\nwhen   ( bad )\nbeside   b\nneeds  b \naxis  x   2 1\nless x=1\n"
                "more   y=1  x=3")
        self.assertEqual(written_after(told), (
            "job b\n"
            "job a\n"
            "  axis x 2 1\n"
            "  less x=1\n"
            "  more y=1 x=3\n"
            "  needs b\n"
            "  beside b\n"
            "  when bad\n"
            "  soft\n"
        ))

    def test_a_last_line_without_its_end_gets_one(self):
        self.assertEqual(written_after("job a\nsoft"), "job a\n  soft\n")

    def test_soft_alone(self):
        self.assertEqual(written_after("job a\nsoft\njob b\n"), "job a\n  soft\njob b\n")

    def test_what_is_left_out_by_a_less_is_written_as_told(self):
        text = "job a\n  axis x 1\n  less x=1\n  less x=1\n"
        self.assertEqual(written_after(text), text)


class Conditions(unittest.TestCase):
    def same(self, *conditions):
        for condition in conditions:
            with self.subTest(condition=condition):
                self.assertEqual(written_condition(condition), condition)

    def becomes(self, told, written):
        with self.subTest(condition=told):
            self.assertEqual(written_condition(told), written)

    def test_ok_is_left_out(self):
        for condition in ("ok", "(ok)", "( ( ok ) )"):
            self.assertIsNone(written_condition(condition))

    def test_what_is_not_just_ok_is_not_left_out(self):
        self.same("not not ok", "ok and ok", "ok or ok", "not ok")

    def test_single_ones(self):
        self.same("bad", "always", "x=1.0", "flag night", "not bad", "flag ok", "flag not", "flag flag")

    def test_needed_brackets_stay(self):
        self.same("not (ok and bad)", "not (ok or bad)", "(ok or bad) and always", "always and (ok or bad)",
                  "ok and (bad and always)", "ok or (bad or always)", "(ok or bad) and (x=1 or y=2)",
                  "not (not ok or bad)", "not ((ok or bad) and always)", "ok and (bad and (always and x=1))",
                  "not (ok and (bad or always)) or x=1", "((ok or bad) and always or x=1) and bad",
                  "ok or (bad or x=1) and y=1 or (bad or y=1)")

    def test_brackets_that_are_not_needed_go(self):
        self.becomes("(ok and bad) and always", "ok and bad and always")
        self.becomes("(ok or bad) or always", "ok or bad or always")
        self.becomes("(ok and bad) or always", "ok and bad or always")
        self.becomes("ok or (bad and always)", "ok or bad and always")
        self.becomes("(not ok) and bad", "not ok and bad")
        self.becomes("ok and (not bad)", "ok and not bad")
        self.becomes("not (not (ok))", "not not ok")
        self.becomes("not (flag x)", "not flag x")
        self.becomes("(x=1) or (flag y)", "x=1 or flag y")
        self.becomes("((ok or bad))and((always))", "(ok or bad) and always")
        self.becomes("((ok and bad) and always) and x=1", "ok and bad and always and x=1")
        self.becomes("(ok and (bad and always))", "ok and (bad and always)")
        self.becomes("(((bad)))", "bad")

    def test_blanks_beside_brackets(self):
        self.becomes("not(  ok   or bad  )and always", "not (ok or bad) and always")
        self.becomes("not ( ( ok or bad ) and always )", "not ((ok or bad) and always)")

    def test_not_binds_closest_then_and_then_or(self):
        self.becomes("((not ok) and bad) or always", "not ok and bad or always")
        self.becomes("ok or ((not bad) and always)", "ok or not bad and always")
        self.becomes("(not ok or bad) and always", "(not ok or bad) and always")


class ReadAgain(unittest.TestCase):
    TEXTS = (
        "",
        "job a",
        "job a\nwhen (not(ok))or(bad and(x=1 and(flag f)))\naxis x 1 2\nmore x=1 y=1\nmore z=1 x=4",
        "job a\naxis p 1 2\naxis q 3 4\nless q=3 p=1\nsoft\njob b\nneeds a\nbeside a\nwhen not not not (bad or ok)",
        "job a\nbeside c b\njob b\njob c\nwhen flag z or flag y\njob d\nneeds c a\nwhen (flag x or flag z) and always",
    )

    def test_what_is_written_is_read_as_the_same_pipeline(self):
        for text in self.TEXTS:
            with self.subTest(text=text):
                written = written_after(text)
                self.assertEqual(read_one(written), read_one(text))
                self.assertEqual(written_after(written), written)
                self.assertEqual(self.all_answers(written), self.all_answers(text))

    def all_answers(self, text):
        counts = read_one(text)
        calls = [[2, number] for number in range(counts[2])] + [[3, number] for number in range(counts[2])]
        calls += [[4, flags] for flags in range(1 << counts[3])]
        return ask(read(text), *calls)

    def test_writing_changes_nothing(self):
        text = self.TEXTS[2]
        rows = ask(read(text), WRITTEN, WRITTEN)
        self.assertEqual(rows[1], rows[2])


if __name__ == "__main__":
    unittest.main()
