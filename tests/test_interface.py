"""How calls are handed in and answers given back."""

import unittest

from fileoffice.office import answers
from tests.helper import (
    ask, both, build, done, file, joined, key_texts, left, list_all, listed, newer, row, sentence, shown, todo, undone)


class Untouched(list):
    """A list that can be read alone."""

    def refuse(self, *args):
        raise AssertionError("what is handed in was changed")

    append = extend = insert = pop = remove = clear = sort = reverse = refuse
    __setitem__ = __delitem__ = __iadd__ = __imul__ = refuse


CALLS = joined([
    sentence("a", 0), file("a=One. Two\nb=<1>x</1>"), done("a", 1, "Zwei"), done("b", 0, "<1></1>"), list_all(),
    newer("b=Two. <1>x</1>\na=Two"), sentence("b", 1), done("b", 0, "\n"), file("B"), newer([256]), sentence("a", 0),
    done("a", 4294967295, ""), list_all(), build(), todo(), key_texts("a"), key_texts(""), undone("a", 0),
    undone("a", 0), undone("b", 4294967295), key_texts("b"), done("a", 0, "Zwo"), todo(), build(),
])


class Interface(unittest.TestCase):
    def test_number_by_number(self):
        calls = [0, 4, 97, 61, 120, 121, 2, 3, 0, 1, 97, 4, 0, 1, 97, 1, 122, 3, 0, 1, 97, 1, 1, 66, 4, 7, 1, 97, 0]
        expected = [3, 1, 1, 0, 6, 1, 1, 97, 0, 2, 0, 4, 2, 120, 121, 0]
        expected += [3, 1, 1, 1, 6, 2, 120, 121, 1, 1, 122, 1, -1000, 1, -2]
        self.assertEqual(answers(calls), expected)

    def test_number_by_number_of_the_later_calls(self):
        calls = [0, 8, 35, 10, 97, 61, 120, 46, 32, 121, 4, 1, 1, 97, 1, 122, 6, 7, 8, 1, 97, 5, 1, 1, 97, 6, 7, 8, 0]
        calls += [5, 1, 1, 97, 8, 1, 97]
        expected = [3, 1, 2, 0, 3, 1, 2, 1, 9, 8, 35, 10, 97, 61, 120, 46, 32, 122, 4, 1, 1, 97, 0]
        expected += [10, 4, 120, 46, 32, 121, 4, 120, 46, 32, 122, 3, 1, 2, 0]
        expected += [9, 8, 35, 10, 97, 61, 120, 46, 32, 121, 7, 2, 1, 97, 0, 1, 97, 1, 1, -2]
        expected += [1, -2, 10, 4, 120, 46, 32, 121, 4, 120, 46, 32, 121]
        self.assertEqual(answers(calls), expected)

    def test_each_call_first(self):
        self.assertEqual(answers(file("")), [3, 0, 0, 0])
        self.assertEqual(answers(newer("")), [3, 0, 0, 0])
        self.assertEqual(answers(list_all()), [1, 0])
        self.assertEqual(answers(sentence("", 0)), [1, -2])
        self.assertEqual(answers(done("", 0, "")), [1, -2])
        self.assertEqual(answers(undone("", 0)), [1, -2])
        self.assertEqual(answers(build()), [1, 0])
        self.assertEqual(answers(todo()), [1, 0])
        self.assertEqual(answers(key_texts("")), [1, -2])

    def test_rows_of_the_greatest_length(self):
        key = "a" * 420
        calls = [file(key), done(key, 0, "a" * 120), undone(key, 0), key_texts(key), sentence(key, 0), list_all()]
        self.assertEqual(ask(*calls), [[-1], [-1], [-2], [-2], [-2], [0]])

    def test_thirty_calls(self):
        calls = joined([file("a=" + "x. " * 132)] + [list_all()] * 29)
        told = answers(calls)
        self.assertEqual(len(told), 4 + 29 * (2 + 132 * 5))

    def test_thirty_calls_of_all_kinds(self):
        text = "a=x. x. \nb=y"
        nine = [file(text), done("a", 0, "X"), newer(text), list_all(), sentence("b", 0), undone("a", 1), build(),
                todo(), key_texts("a")]
        told = ask(*nine * 3, *nine[:3])
        self.assertEqual(told[:9] * 3 + told[:3], told)
        self.assertEqual(told[:9], [
            [2, 3, 0], [2, 3, 1], [2, 3, 2], listed(("a", 0, 3, 1), ("a", 1, 3, 1), ("b", 0, 1, 0)), shown("y"),
            [2, 3, 1], row("a=Xx. \nb=y"), left(("a", 1), ("b", 0)), both("x. x. ", "Xx. ")])

    def test_what_is_handed_in_is_not_changed(self):
        calls = Untouched(CALLS)
        answers(calls)
        self.assertEqual(list(calls), CALLS)

    def test_a_second_time_is_as_the_first(self):
        first = answers(list(CALLS))
        self.assertEqual(answers(list(CALLS)), first)
        self.assertEqual(answers(list_all()), [1, 0])

    def test_what_is_given_back_may_be_changed(self):
        first = answers(CALLS)
        kept = list(first)
        first.clear()
        self.assertEqual(answers(CALLS), kept)

    def test_whole_numbers_alone(self):
        told = answers(CALLS)
        self.assertIs(type(told), list)
        self.assertEqual({type(number) for number in told}, {int})


if __name__ == "__main__":
    unittest.main()
