"""answers: how calls and answers are laid out, and that nothing is changed or kept."""

import unittest

from jobways.runs import answers
from tests.helper import ask, begin, label, needs, read, WRITTEN

TEXT = "job a\n  axis x 1 2\njob b\n  needs a\n  when flag f\n"


def joined(*calls):
    row = []
    for call in calls:
        row += call
    return row


class Layout(unittest.TestCase):
    def test_each_answer_has_its_count_before_it(self):
        self.assertEqual(answers([1]), [1, 0])
        self.assertEqual(answers([2, 0]), [1, -2])
        self.assertEqual(answers([3, 0]), [1, -2])
        self.assertEqual(answers([4, 0]), [2, 1, 0])
        self.assertEqual(answers([4, 1]), [1, -3])
        self.assertEqual(answers([0, 0]), [4, 0, 0, 0, 0])
        self.assertEqual(answers([0, 1, 120]), [3, -1, 1, 2])

    def test_a_text_may_hold_any_byte_and_the_next_call_is_found_behind_it(self):
        self.assertEqual(answers([0, 3, 0, 1, 255, 1, 4, 0]), [3, -1, 1, 1, 1, 0, 2, 1, 0])

    def test_written_and_label_in_bytes(self):
        row = joined(read("job a\naxis x 1"), WRITTEN, label(0))
        text = list(b"job a\n  axis x 1\n")
        self.assertEqual(answers(row), [4, 0, 1, 1, 0, len(text) + 1, 0] + text + [6, 0] + list(b"a (1)"))

    def test_several_calls_in_any_order_on_one_object(self):
        rows = ask(needs(0), begin(0), WRITTEN, read(TEXT), needs(2), begin(1), label(1), read("x"), needs(1), begin(2),
                   read("job c"), label(0), label(1), begin(0), begin(1), WRITTEN)
        self.assertEqual(rows, [
            [-2], [1, 0], [0], [0, 2, 3, 1], [0, 0, 1], [0, 2, 0, 1], [0] + list(b"a (2)"), [-1, 1, 2], [0], [-3],
            [0, 1, 1, 0], [0, ord("c")], [-2], [0, 1, 0], [-3], [0] + list(b"job c\n"),
        ])

    def test_sixty_calls(self):
        rows = ask(read(TEXT), *[begin(number % 3) for number in range(59)])
        self.assertEqual(len(rows), 60)
        self.assertEqual(rows[1:4], [[0, 2, 0, 1], [0, 2, 0, 1], [-3]])
        self.assertEqual(rows[1:4] * 19, rows[1:58])

    def test_ten_texts_of_the_largest_size(self):
        text = "job a\n  when " + "ok and " * 426 + "ok\n"
        text += "#" * (2990 - len(text))
        rows = ask(*[read(text), WRITTEN, begin(0)] * 10)
        for place in range(0, 30, 3):
            self.assertEqual(rows[place], [0, 1, 1, 0])
            self.assertEqual(bytes(rows[place + 1][1:]).decode(), text.rstrip("#"))
            self.assertEqual(rows[place + 2], [0, 1, 0])

    def test_answers_are_whole_numbers_in_a_list(self):
        answered = answers(joined(read(TEXT), WRITTEN, label(0), needs(2), begin(0), begin(1), begin(9)))
        self.assertIs(type(answered), list)
        self.assertEqual({type(number) for number in answered}, {int})


class Guarded(list):
    """A list that can't be changed."""

    def refuse(self, *args, **kwargs):
        raise AssertionError("what is handed in is changed")

    append = extend = insert = pop = remove = clear = sort = reverse = refuse
    __setitem__ = __delitem__ = __iadd__ = __imul__ = refuse


class NothingKept(unittest.TestCase):
    def test_what_is_handed_in_is_not_changed(self):
        row = joined(read(TEXT), WRITTEN, read("foo"), label(0), needs(2), begin(0), begin(1), begin(9))
        before = list(row)
        answered = answers(row)
        self.assertEqual(row, before)
        self.assertIsNot(answered, row)
        self.assertEqual(answers(Guarded(row)), answered)

    def test_each_time_is_the_first(self):
        row = joined(WRITTEN, label(0), begin(1), read(TEXT), WRITTEN, needs(2), begin(1))
        first = answers(list(row))
        for other in ([1], joined(read("job z\nsoft\n"), begin(0)), joined(read("job z\nneeds z"))):
            answers(other)
            self.assertEqual(answers(list(row)), first)
        self.assertEqual(answers([1, 4, 0]), [1, 0, 2, 1, 0])

    def test_what_is_given_back_is_not_shared(self):
        row = joined(read(TEXT), needs(2), WRITTEN)
        first = answers(row)
        kept = list(first)
        first.clear()
        self.assertEqual(answers(row), kept)


if __name__ == "__main__":
    unittest.main()
