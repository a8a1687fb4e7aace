"""How calls are handed in and answers given back."""

import unittest

from fileoffice.office import answers
from tests.helper import done, file, joined, list_all, newer, sentence


class Untouched(list):
    """A list that can be read alone."""

    def refuse(self, *args):
        raise AssertionError("what is handed in was changed")

    append = extend = insert = pop = remove = clear = sort = reverse = refuse
    __setitem__ = __delitem__ = __iadd__ = __imul__ = refuse


CALLS = joined([
    sentence("a", 0), file("a=One. Two\nb=<1>x</1>"), done("a", 1, "Zwei"), done("b", 0, "<1></1>"), list_all(),
    newer("b=Two. <1>x</1>\na=Two"), sentence("b", 1), done("b", 0, "\n"), file("B"), newer([256]), sentence("a", 0),
    done("a", 4294967295, ""), list_all(),
])


class Interface(unittest.TestCase):
    def test_number_by_number(self):
        calls = [0, 4, 97, 61, 120, 121, 2, 3, 0, 1, 97, 4, 0, 1, 97, 1, 122, 3, 0, 1, 97, 1, 1, 66, 4, 7, 1, 97, 0]
        expected = [3, 1, 1, 0, 6, 1, 1, 97, 0, 2, 0, 4, 2, 120, 121, 0]
        expected += [3, 1, 1, 1, 6, 2, 120, 121, 1, 1, 122, 1, -1000, 1, -2]
        self.assertEqual(answers(calls), expected)

    def test_each_call_first(self):
        self.assertEqual(answers(file("")), [3, 0, 0, 0])
        self.assertEqual(answers(newer("")), [3, 0, 0, 0])
        self.assertEqual(answers(list_all()), [1, 0])
        self.assertEqual(answers(sentence("", 0)), [1, -2])
        self.assertEqual(answers(done("", 0, "")), [1, -2])

    def test_rows_of_the_greatest_length(self):
        calls = joined([file("a" * 420), done("a" * 420, 0, "a" * 120), list_all()])
        self.assertEqual(answers(calls), [1, -1, 1, -1, 1, 0])

    def test_thirty_calls(self):
        calls = joined([file("a=" + "x. " * 132)] + [list_all()] * 29)
        told = answers(calls)
        self.assertEqual(len(told), 4 + 29 * (2 + 132 * 5))

    def test_what_is_handed_in_is_not_changed(self):
        calls = Untouched(CALLS)
        answers(calls)
        self.assertEqual(list(calls), CALLS)

    def test_a_second_time_is_as_the_first(self):
        first = answers(list(CALLS))
        self.assertEqual(answers(list(CALLS)), first)
        self.assertEqual(answers(list_all()), [1, 0])

    def test_what_is_given_back_may_be_changed(self):
        first = answers(CALLS)
        kept = list(first)
        first.clear()
        self.assertEqual(answers(CALLS), kept)

    def test_whole_numbers_alone(self):
        told = answers(CALLS)
        self.assertIs(type(told), list)
        self.assertEqual({type(number) for number in told}, {int})


if __name__ == "__main__":
    unittest.main()
