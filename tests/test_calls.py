"""answers: how calls and answers are laid out, and that nothing is changed or kept."""

import itertools
import unittest

from jobways.runs import answers
from tests.helper import ask, begin, ends, ever, forecast, label, needs, read, STAND, WRITTEN

TEXT = "job a\n  axis x 1 2\njob b\n  needs a\n  when flag f\n"


def joined(*calls):
    row = []
    for call in calls:
        row += call
    return row


class Layout(unittest.TestCase):
    def test_each_answer_has_its_count_before_it(self):
        self.assertEqual(answers([1]), [1, 0])
        self.assertEqual(answers([2, 0]), [1, -2])
        self.assertEqual(answers([3, 0]), [1, -2])
        self.assertEqual(answers([4, 0]), [2, 1, 0])
        self.assertEqual(answers([4, 1]), [1, -3])
        self.assertEqual(answers([5, 0, 1]), [1, -4])
        self.assertEqual(answers([6]), [1, -4])
        self.assertEqual(answers([7, 0, 0]), [1, 1])
        self.assertEqual(answers([7, 0, 1]), [1, -3])
        self.assertEqual(answers([8, 0]), [1, -2])
        self.assertEqual(answers([0, 0]), [4, 0, 0, 0, 0])
        self.assertEqual(answers([0, 1, 120]), [3, -1, 1, 2])

    def test_a_text_may_hold_any_byte_and_the_next_call_is_found_behind_it(self):
        self.assertEqual(answers([0, 3, 0, 1, 255, 1, 4, 0]), [3, -1, 1, 1, 1, 0, 2, 1, 0])

    def test_written_and_label_in_bytes(self):
        row = joined(read("job a\naxis x 1"), WRITTEN, label(0))
        text = list(b"job a\n  axis x 1\n")
        self.assertEqual(answers(row), [4, 0, 1, 1, 0, len(text) + 1, 0] + text + [6, 0] + list(b"a (1)"))

    def test_several_calls_in_any_order_on_one_object(self):
        rows = ask(needs(0), begin(0), WRITTEN, read(TEXT), needs(2), begin(1), label(1), read("x"), needs(1), begin(2),
                   read("job c"), label(0), label(1), begin(0), begin(1), WRITTEN)
        self.assertEqual(rows, [
            [-2], [1, 0], [0], [0, 2, 3, 1], [0, 0, 1], [0, 2, 0, 1], [0] + list(b"a (2)"), [-1, 1, 2], [0], [-3],
            [0, 1, 1, 0], [0, ord("c")], [-2], [0, 1, 0], [-3], [0] + list(b"job c\n"),
        ])

    def test_all_nine_calls_in_one_list(self):
        rows = ask(ever(0), forecast(0, 0), STAND, ends(0, 1), begin(0), STAND, read(TEXT), STAND, WRITTEN, label(2), needs(2),
                   ever(2), forecast(1, 2), begin(1), ends(1, 9), STAND, forecast(2, 0), read("x"), ends(0, 3), ends(2, 0),
                   ends(2, 0), ends(3, 0), STAND, begin(0), ends(0, 0), STAND, ever(1))
        self.assertEqual(rows, [
            [-2], [1], [-4], [-4], [1, 0], [1], [0, 2, 3, 1], [-4], [0] + list(TEXT.encode()), [0, ord("b")], [0, 0, 1],
            [1, 0, 1], [2, 2, 3, 2], [0, 2, 0, 1], [0, 0], [0, 1, 2, 0], [-3], [-1, 1, 2], [0, 1, 2], [2, 0],
            [-5], [-2], [2, 2, 2, 3], [0, 2, 0, 1], [0, 0], [0, 3, 1, 0], [1, 0, 0],
        ])

    def test_nine_calls_in_other_orders(self):
        text = "job a\njob b\nneeds a\nwhen bad\n"
        calls = {"read": read(text), "written": WRITTEN, "label": label(1), "needs": needs(1), "begin": begin(0),
                 "ends": ends(0, 0), "stand": STAND, "forecast": forecast(0, 1), "ever": ever(1)}
        read_told = {"written": [0] + list(b"job a\njob b\n  needs a\n  when bad\n"), "label": [0, ord("b")],
                     "needs": [0, 0], "forecast": [2, 3, 2], "ever": [1, 1, 0]}
        unread = {"written": [0], "label": [-2], "needs": [-2], "forecast": [-3], "ever": [-2]}
        for order in list(itertools.permutations(calls))[::1009]:
            places = {name: place for place, name in enumerate(order)}
            rows = dict(zip(order, ask(*[calls[name] for name in order])))
            self.assertEqual(rows["read"], [0, 2, 2, 0])
            for name in unread:
                is_read = places["read"] < places[name]
                self.assertEqual(rows[name], read_told[name] if is_read else unread[name], order)
            self.assertEqual(rows["begin"], [0, 1, 0] if places["read"] < places["begin"] else [1, 0], order)
            if places["read"] < places["begin"] < places["ends"]:
                self.assertEqual(rows["ends"], [0, 1, 1], order)
            elif places["begin"] < places["ends"] < places["read"]:
                self.assertEqual(rows["ends"], [-2], order)
            else:
                self.assertEqual(rows["ends"], [-4], order)

    def test_sixty_calls(self):
        rows = ask(read(TEXT), *[begin(number % 3) for number in range(59)])
        self.assertEqual(len(rows), 60)
        self.assertEqual(rows[1:4], [[0, 2, 0, 1], [0, 2, 0, 1], [-3]])
        self.assertEqual(rows[1:4] * 19, rows[1:58])

    def test_ten_texts_of_the_largest_size(self):
        text = "job a\n  when " + "ok and " * 426 + "ok\n"
        text += "#" * (2990 - len(text))
        rows = ask(*[read(text), WRITTEN, begin(0)] * 10)
        for place in range(0, 30, 3):
            self.assertEqual(rows[place], [0, 1, 1, 0])
            self.assertEqual(bytes(rows[place + 1][1:]).decode(), text.rstrip("#"))
            self.assertEqual(rows[place + 2], [0, 1, 0])

    def test_answers_are_whole_numbers_in_a_list(self):
        answered = answers(joined(read(TEXT), WRITTEN, label(0), needs(2), begin(0), begin(1), begin(9), ends(0, 1), ends(1, 0),
                                  STAND, forecast(1, 5), forecast(9, 0), ever(2), ever(9), read("job a\nwhen bad"), ever(0)))
        self.assertIs(type(answered), list)
        self.assertEqual({type(number) for number in answered}, {int})


class Guarded(list):
    """A list that can't be changed."""

    def refuse(self, *args, **kwargs):
        raise AssertionError("what is handed in is changed")

    append = extend = insert = pop = remove = clear = sort = reverse = refuse
    __setitem__ = __delitem__ = __iadd__ = __imul__ = refuse


class NothingKept(unittest.TestCase):
    def test_what_is_handed_in_is_not_changed(self):
        row = joined(STAND, ends(0, 0), read(TEXT), WRITTEN, read("foo"), label(0), needs(2), begin(0), begin(1), begin(9),
                     ends(0, 1), ends(1, 0), ends(1, 0), STAND, forecast(1, 5), forecast(2, 8), ever(2), ever(3), ever(0))
        before = list(row)
        answered = answers(row)
        self.assertEqual(row, before)
        self.assertIsNot(answered, row)
        self.assertEqual(answers(Guarded(row)), answered)

    def test_each_time_is_the_first(self):
        row = joined(STAND, WRITTEN, label(0), begin(1), forecast(0, 1), ever(0), read(TEXT), WRITTEN, needs(2), STAND, begin(1),
                     ends(1, 1), STAND)
        first = answers(list(row))
        for other in ([1], joined(read("job z\nsoft\n"), begin(0), ends(0, 0)), joined(read("job z\nneeds z")),
                      joined(read(TEXT), begin(1), ends(1, 0), ends(0, 1))):
            answers(other)
            self.assertEqual(answers(list(row)), first)
        self.assertEqual(answers([1, 4, 0]), [1, 0, 2, 1, 0])

    def test_what_is_given_back_is_not_shared(self):
        row = joined(read(TEXT), needs(2), WRITTEN)
        first = answers(row)
        kept = list(first)
        first.clear()
        self.assertEqual(answers(row), kept)


if __name__ == "__main__":
    unittest.main()
