"""What holds over the whole program: what is handed in stays as it is, and nothing is kept, printed or read."""

import contextlib
import copy
import inspect
import io
import sys
import unittest

from versestock.desk import next_row

from plain import codes

CALLS = [
    (3, "-uu,--|-u,--;1.1,2.2", [], ["arma", "ab", "ille", "et", "m"]),
    (3, "-uu,--|-u,--", [0, 4], ["arma", "ab", "ille", "et", "m"]),
    (12, "|".join(["-,u"] * 12), list(range(12)), ["ba"] * 64),
    (2, "u", [1], ["ba", "ba"]),
    (1, "x", [], ["ba"]),
    (13, "-", [0], ["ba"]),
    (2, "-", [0, 0], ["ba", "B"]),
    (2, "-", [0, 0], ["ba", "be"]),
]


class ListThatStays(list):
    """A list that fails as soon as somebody changes it."""

    def refuse(self, *arguments, **keywords):
        raise AssertionError("what was handed in is changed")

    append = extend = insert = remove = pop = clear = sort = reverse = refuse
    __setitem__ = __delitem__ = __iadd__ = __imul__ = refuse


def arguments_of(call, kind=list):
    most, measure, after, words = call
    return most, kind(codes(measure)), kind(after), kind(kind(codes(word)) for word in words)


class DeskTest(unittest.TestCase):
    def test_names_of_arguments(self):
        self.assertEqual(list(inspect.signature(next_row).parameters), ["most", "measure", "after", "stock"])
        self.assertEqual(next_row(most=1, measure=[45], after=[], stock=[[97]]), [1, 0])

    def test_what_is_handed_in_is_not_changed(self):
        for call in CALLS:
            arguments = arguments_of(call)
            before = copy.deepcopy(arguments)
            next_row(*arguments)
            self.assertEqual(arguments, before)

    def test_not_for_a_while_either(self):
        for call in CALLS:
            self.assertEqual(next_row(*arguments_of(call, ListThatStays)), next_row(*arguments_of(call)))

    def test_nothing_of_what_is_handed_in_is_given_back(self):
        after = [0]
        answer = next_row(2, codes("u,uu"), after, [codes("ba"), codes("be")])
        self.assertEqual(answer, [2, 0, 1])
        answer.append(7)
        self.assertEqual(after, [0])

    def test_the_same_call_twice(self):
        first = [next_row(*arguments_of(call)) for call in CALLS]
        again = [next_row(*arguments_of(call)) for call in reversed(CALLS)]
        self.assertEqual(first, again[::-1])

    def test_an_answer_that_is_changed_does_not_matter(self):
        for call in CALLS:
            answer = next_row(*arguments_of(call))
            kept = list(answer)
            answer.clear()
            self.assertEqual(next_row(*arguments_of(call)), kept)

    def test_a_list_of_whole_numbers(self):
        for call in CALLS:
            answer = next_row(*arguments_of(call))
            self.assertIs(type(answer), list)
            self.assertEqual({type(number) for number in answer}, {int})

    def test_it_prints_nothing(self):
        shown = io.StringIO()
        with contextlib.redirect_stdout(shown), contextlib.redirect_stderr(shown):
            for call in CALLS:
                next_row(*arguments_of(call))
        self.assertEqual(shown.getvalue(), "")

    def test_the_longest_that_may_be_handed_in(self):
        answer = next_row(4294967295, [255] * 1000, [255] * 300, [[255] * 100 for index in range(100)])
        self.assertEqual(answer, [-22])
        answer = next_row(4294967295, [45], [255] * 300, [[255] * 100 for index in range(100)])
        self.assertEqual(answer, [-23])
        self.assertEqual(next_row(12, [45], [255] * 300, [[97]]), [-24])

    def test_calls_within_one_another_stay_few(self):
        before = sys.getrecursionlimit()
        sys.setrecursionlimit(len(inspect.stack()) + 100)
        try:
            for call in CALLS:
                next_row(*arguments_of(call))
        finally:
            sys.setrecursionlimit(before)


if __name__ == "__main__":
    unittest.main()
