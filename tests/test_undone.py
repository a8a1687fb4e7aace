"""Promise 2: what undone takes back, and what it refuses."""

import unittest

from tests.helper import (
    ask, both, build, done, file, key_texts, last, left, list_all, listed, newer, row, sentence, shown, todo, undone)


class TakenBack(unittest.TestCase):
    def test_how_it_stands(self):
        told = ask(file("a=One. Two\nb="), done("a", 0, "Eins. "), done("a", 1, "Zwei"), undone("a", 0), undone("a", 1))
        self.assertEqual(told[2:], [[2, 2, 2], [2, 2, 1], [2, 2, 0]])

    def test_every_call_says_so(self):
        text = "a=One. Two"
        told = ask(file(text), done("a", 0, "Eins. "), done("a", 1, "Zwei"), undone("a", 0),
                   list_all(), sentence("a", 0), sentence("a", 1), todo(), build(), key_texts("a"))
        self.assertEqual(told[4:], [
            listed(("a", 0, 5, 0), ("a", 1, 3, 1)), shown("One. "), shown("Two", "Zwei"), left(("a", 0)),
            row("a=One. Zwei"), both("One. Two", "One. Zwei")])

    def test_it_is_as_if_it_had_never_been_done(self):
        rest = [list_all(), sentence("a", 0), todo(), build(), key_texts("a"), newer("a=Two. One. ")]
        self.assertEqual(
            ask(file("a=One. "), done("a", 0, "Eins"), undone("a", 0), *rest)[3:], ask(file("a=One. "), *rest)[1:])

    def test_only_that_sentence(self):
        text = "a=x. x. \nb=x. "
        calls = [file(text), done("a", 0, "A"), done("a", 1, "B"), done("b", 0, "C"), undone("a", 1), list_all()]
        self.assertEqual(last(*calls), listed(("a", 0, 3, 1), ("a", 1, 3, 0), ("b", 0, 3, 1)))

    def test_an_empty_translation(self):
        told = ask(file("a=One"), done("a", 0, ""), undone("a", 0), sentence("a", 0), build())
        self.assertEqual(told[1:], [[1, 1, 1], [1, 1, 0], shown("One"), row("a=One")])

    def test_what_a_newer_version_brought_over(self):
        told = ask(file("a=x. "), done("a", 0, "y"), newer("a=x. x. "), undone("a", 1), list_all())
        self.assertEqual(told[2:], [[1, 2, 2], [1, 2, 1], listed(("a", 0, 3, 1), ("a", 1, 3, 0))])

    def test_done_again(self):
        told = ask(file("a=One"), done("a", 0, "Eins"), undone("a", 0), done("a", 0, "Ein"), sentence("a", 0))
        self.assertEqual(told[2:], [[1, 1, 0], [1, 1, 1], shown("One", "Ein")])


class Refused(unittest.TestCase):
    def check(self, calls, key, number):
        self.assertEqual(last(*calls, undone(key, number)), [-2], (key, number))

    def test_a_sentence_that_is_not_done(self):
        self.check([file("a=One. Two")], "a", 0)
        self.check([file("a=One. Two"), done("a", 0, "Eins. ")], "a", 1)
        self.check([file("a=x\nb=x"), done("b", 0, "y")], "a", 0)

    def test_a_second_time(self):
        self.check([file("a=One"), done("a", 0, "Eins"), undone("a", 0)], "a", 0)

    def test_no_such_number(self):
        for number in (1, 2, 256, 4294967295):
            self.check([file("a=One"), done("a", 0, "Eins")], "a", number)

    def test_no_such_key(self):
        for key in ("b", "", "aa", "A", "a=", "# a", "x" * 420, [97 + 256], [4294967295], [97, 0]):
            self.check([file("a=One\n# a=Two"), done("a", 0, "Eins")], key, 0)

    def test_a_key_without_sentences(self):
        self.check([file("a=")], "a", 0)

    def test_before_any_file(self):
        self.check([], "a", 0)
        self.check([], "", 0)

    def test_what_a_file_or_a_newer_version_took_away(self):
        self.check([file("a=One"), done("a", 0, "Eins"), file("a=One")], "a", 0)
        self.check([file("a=One"), done("a", 0, "Eins"), newer("a=Two")], "a", 0)
        self.check([file("a=One"), done("a", 0, "Eins"), newer("b=One")], "a", 0)

    def test_a_refused_call_changes_nothing(self):
        begun = [file("a=x. x. y\nb=z"), done("a", 1, "B"), done("a", 0, "A")]
        rest = [list_all(), sentence("a", 0), todo(), build(), key_texts("a"), newer("a=y. y. y. x. "), build()]
        for call in (undone("a", 2), undone("a", 3), undone("b", 0), undone("c", 0), undone("", 0)):
            told = ask(*begun, call, *rest)
            self.assertEqual(told[3], [-2])
            self.assertEqual(told[4:], ask(*begun, *rest)[3:])


class Order(unittest.TestCase):
    text = "a=x. x. x. "

    def check(self, calls, translation):
        """Which translation a newer version takes, where no number helps."""
        told = last(file(self.text), *calls, newer("a=z. z. z. x. "), sentence("a", 3))
        self.assertEqual(told, shown("x. ", translation))

    def test_done_again_it_stands_behind_all_others(self):
        self.check([done("a", 0, "A"), done("a", 1, "B")], "A")
        self.check([done("a", 0, "A"), done("a", 1, "B"), undone("a", 0), done("a", 0, "A")], "B")
        self.check([done("a", 0, "A"), done("a", 1, "B"), done("a", 2, "C"), undone("a", 0), done("a", 0, "A"),
                    undone("a", 1)], "C")

    def test_the_others_stay_in_their_order(self):
        self.check([done("a", 2, "C"), done("a", 0, "A"), done("a", 1, "B"), undone("a", 0)], "C")
        self.check([done("a", 2, "C"), done("a", 1, "B"), done("a", 0, "A"), undone("a", 2)], "B")

    def test_what_is_undone_is_not_taken(self):
        self.check([done("a", 0, "A"), undone("a", 0)], None)
        self.check([done("a", 0, "A"), done("a", 1, "B"), undone("a", 0)], "B")

    def test_a_refused_undone_moves_nothing(self):
        self.check([done("a", 0, "A"), done("a", 1, "B"), undone("a", 2)], "A")
        self.check([done("a", 1, "B"), undone("a", 0), done("a", 0, "A")], "B")

    def test_behind_a_newer_version(self):
        self.check([done("a", 1, "B"), done("a", 0, "A"), undone("a", 0), newer(self.text), undone("a", 0)], "B")
        self.check([done("a", 1, "B"), done("a", 0, "A"), newer(self.text), undone("a", 0), done("a", 0, "D")], "B")

    def test_the_same_number_had_the_text_but_was_undone(self):
        told = ask(file(self.text), done("a", 0, "A"), done("a", 1, "B"), undone("a", 0), newer(self.text),
                   sentence("a", 0), sentence("a", 1), sentence("a", 2))
        self.assertEqual(told[4:], [[1, 3, 3]] + [shown("x. ", "B")] * 3)


class OtherRefusals(unittest.TestCase):
    """Promises 1 and 3, where undone stands among the calls."""

    begun = [file("a=<1>x.</1> y"), done("a", 0, "<1></1>"), done("a", 1, "Y"), undone("a", 0)]

    def test_file_and_newer(self):
        for text, answer in (("x" * 401, -1), ([256], -1), ("a=<1>", -1998), ("a=x\na=y", -2999), ("a=\t", -1002)):
            for call in (file(text), newer(text)):
                told = ask(*self.begun, call, build(), undone("a", 1))
                self.assertEqual(told[4:], [[answer], row("a=<1>x.</1> Y"), [1, 2, 0]])

    def test_done(self):
        refused = [(done("a", 0, "x" * 101), -1), (done("a", 2, [256]), -1), (done("a", 2, "\n"), -2),
                   (done("a", 0, "\t\n"), -1), (done("a", 0, "x\t"), -1001), (done("a", 0, "x"), -4),
                   (done("a", 0, "<1>"), -4)]
        for call, answer in refused:
            told = ask(*self.begun, call, build(), undone("a", 0), undone("a", 1))
            self.assertEqual(told[4:], [[answer], row("a=<1>x.</1> Y"), [-2], [1, 2, 0]])


if __name__ == "__main__":
    unittest.main()
