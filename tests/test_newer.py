"""A newer version: what's done stays with its text."""

import unittest

from tests.helper import ask, done, file, last, list_all, newer, sentence, shown


class NewerCase(unittest.TestCase):
    def check(self, calls, key, *expected):
        """Of the sentences of key, behind calls, each (text, its translation or None)."""
        told = ask(*calls, *[sentence(key, number) for number in range(len(expected) + 1)])
        self.assertEqual(told[len(calls):], [shown(*each) for each in expected] + [[-2]])


class Stays(NewerCase):
    def test_the_same_file(self):
        calls = [file("a=One. Two"), done("a", 1, "Zwei"), newer("a=One. Two")]
        self.assertEqual(last(*calls), [1, 2, 1])
        self.check(calls, "a", ("One. ", None), ("Two", "Zwei"))

    def test_its_number_changes(self):
        calls = [file("a=One. Two. Three"), done("a", 1, "Zwei"), done("a", 2, "Drei")]
        calls.append(newer("a=Two. Zero. One. Three"))
        self.assertEqual(last(*calls), [1, 4, 2])
        self.check(calls, "a", ("Two. ", "Zwei"), ("Zero. ", None), ("One. ", None), ("Three", "Drei"))

    def test_its_line_changes(self):
        calls = [file("a=One\nb=Two"), done("a", 0, "Eins"), newer("# new\nb=Two\n\na=One")]
        self.assertEqual(last(*calls), [2, 2, 1])
        self.check(calls, "a", ("One", "Eins"))
        self.check(calls, "b", ("Two", None))

    def test_a_text_that_changes_is_not_done(self):
        for text in ("One", "one. ", "One.  ", "One.<1/> ", " One. ", "One.\\n"):
            self.assertEqual(last(file("a=One. "), done("a", 0, "Eins"), newer("a=" + text))[2], 0)

    def test_only_in_its_key(self):
        calls = [file("a=One"), done("a", 0, "Eins"), newer("b=One")]
        self.assertEqual(last(*calls), [1, 1, 0])
        self.check(calls, "b", ("One", None))
        calls = [file("a=One\nb=One"), done("a", 0, "Eins"), newer("b=One\na=Two. One")]
        self.check(calls, "b", ("One", None))
        self.check(calls, "a", ("Two. ", None), ("One", "Eins"))

    def test_a_translation_that_is_empty_or_has_tags(self):
        calls = [file("a=One. <1/>"), done("a", 0, ""), done("a", 1, "<1/>!"), newer("a=Two. <1/>")]
        self.check(calls, "a", ("Two. ", None), ("<1/>", "<1/>!"))
        calls = [file("a=One. Two"), done("a", 0, ""), newer("a=Zero. One. ")]
        self.check(calls, "a", ("Zero. ", None), ("One. ", ""))

    def test_a_text_stands_more_often_now(self):
        calls = [file("a=x. "), done("a", 0, "y"), newer("a=x. x. z. x. ")]
        self.assertEqual(last(*calls), [1, 4, 3])
        self.check(calls, "a", ("x. ", "y"), ("x. ", "y"), ("z. ", None), ("x. ", "y"))


class Goes(NewerCase):
    def test_a_text_that_goes_away_is_gone(self):
        calls = [file("a=One. Two"), done("a", 0, "Eins"), newer("a=Two"), newer("a=One. Two")]
        self.assertEqual([each[2] for each in ask(*calls)], [0, 1, 0, 0])
        self.check(calls, "a", ("One. ", None), ("Two", None))

    def test_a_key_that_goes_away_is_gone(self):
        calls = [file("a=One\nb=Two"), done("a", 0, "Eins"), newer("b=Two"), newer("a=One\nb=Two")]
        self.assertEqual([each[2] for each in ask(*calls)], [0, 1, 0, 0])
        self.assertEqual(last(*calls, list_all())[-1], 0)

    def test_a_file_without_bytes(self):
        calls = [file("a=One"), done("a", 0, "Eins"), newer(""), newer("a=One")]
        self.assertEqual(ask(*calls)[2:], [[0, 0, 0], [1, 1, 0]])


class WhichOne(NewerCase):
    text = "a=x. x. x. "

    def test_the_one_with_the_same_number(self):
        calls = [file(self.text), done("a", 2, "C"), done("a", 1, "B"), done("a", 0, "A"), newer(self.text)]
        self.check(calls, "a", ("x. ", "A"), ("x. ", "B"), ("x. ", "C"))

    def test_else_the_first_that_was_done(self):
        calls = [file(self.text), done("a", 2, "C"), done("a", 1, "B"), newer("a=x. x. x. x. ")]
        self.check(calls, "a", ("x. ", "C"), ("x. ", "B"), ("x. ", "C"), ("x. ", "C"))

    def test_the_same_number_with_another_text(self):
        calls = [file("a=y. x. x. "), done("a", 0, "Y"), done("a", 2, "C"), done("a", 1, "B"), newer("a=x. y. ")]
        self.check(calls, "a", ("x. ", "C"), ("y. ", "Y"))

    def test_what_is_done_again_stands_behind_all_others(self):
        calls = [file(self.text), done("a", 0, "A"), done("a", 1, "B"), done("a", 0, "AA"), newer("a=z. z. z. x. ")]
        self.check(calls, "a", ("z. ", None), ("z. ", None), ("z. ", None), ("x. ", "B"))

    def test_done_again_with_the_same_translation_moves_too(self):
        calls = [file(self.text), done("a", 0, "A"), done("a", 1, "B"), done("a", 0, "A"), newer("a=z. z. z. x. ")]
        self.check(calls, "a", ("z. ", None), ("z. ", None), ("z. ", None), ("x. ", "B"))

    def test_done_again_where_it_is_last_already(self):
        calls = [file(self.text), done("a", 0, "A"), done("a", 1, "B"), done("a", 1, "BB"), newer("a=z. z. z. x. ")]
        self.check(calls, "a", ("z. ", None), ("z. ", None), ("z. ", None), ("x. ", "A"))

    def test_a_refused_done_moves_nothing(self):
        calls = [file(self.text), done("a", 0, "A"), done("a", 1, "B"), done("a", 0, "\t"), newer("a=z. z. z. x. ")]
        self.check(calls, "a", ("z. ", None), ("z. ", None), ("z. ", None), ("x. ", "A"))

    def test_behind_a_newer_version_in_that_version_s_order(self):
        calls = [file(self.text), done("a", 2, "C"), done("a", 0, "A"), newer(self.text), newer("a=z. z. z. x. ")]
        self.check(calls, "a", ("z. ", None), ("z. ", None), ("z. ", None), ("x. ", "A"))

    def test_what_is_done_behind_a_newer_version_comes_last(self):
        calls = [file("a=x. x. "), done("a", 1, "B"), newer("a=x. x. "), done("a", 0, "A"), newer("a=z. z. x. ")]
        self.check(calls, "a", ("z. ", None), ("z. ", None), ("x. ", "B"))

    def test_a_refused_newer_version_leaves_the_order(self):
        calls = [file(self.text), done("a", 2, "C"), done("a", 0, "A"), newer("A"), newer("a=z. z. z. x. ")]
        self.check(calls, "a", ("z. ", None), ("z. ", None), ("z. ", None), ("x. ", "C"))

    def test_keys_do_not_mix(self):
        text = "a=x. x. \nb=x. x. "
        calls = [file(text), done("b", 1, "D"), done("a", 1, "B"), done("b", 0, "C"), done("a", 0, "A")]
        calls.append(newer("a=z. z. x. \nb=z. z. x. "))
        self.check(calls, "a", ("z. ", None), ("z. ", None), ("x. ", "B"))
        self.check(calls, "b", ("z. ", None), ("z. ", None), ("x. ", "D"))


if __name__ == "__main__":
    unittest.main()
