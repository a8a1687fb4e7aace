"""todo: what isn't done; key (promise 2): a text as it is and put together."""

import unittest

from tests.helper import (
    ask, both, done, file, key_texts, last, left, list_all, newer, sentence, sentences, todo, undone)


class Todo(unittest.TestCase):
    text = "z=One. Two\n#\nb=\n\na.1=<1/>. x. y"

    def test_nothing_is_there(self):
        self.assertEqual(last(todo()), [0])
        for text in ("", "\n", "#a=x", "a="):
            self.assertEqual(last(file(text), todo()), [0])

    def test_nothing_is_done(self):
        spots = [("z", 0), ("z", 1), ("a.1", 0), ("a.1", 1), ("a.1", 2)]
        self.assertEqual(last(file(self.text), todo()), left(*spots))

    def test_some_are_done(self):
        calls = [file(self.text), done("a.1", 1, "X"), done("z", 0, "")]
        self.assertEqual(last(*calls, todo()), left(("z", 1), ("a.1", 0), ("a.1", 2)))

    def test_all_are_done(self):
        calls = [done("z", 0, ""), done("z", 1, ""), done("a.1", 0, "<1/>"), done("a.1", 2, ""), done("a.1", 1, "")]
        self.assertEqual(ask(file(self.text), *calls, todo())[5:], [[3, 5, 5], [0]])

    def test_number_by_number(self):
        self.assertEqual(last(file("ab=One. Two"), done("ab", 0, "x"), todo()), [1, 2, 97, 98, 1])

    def test_undone_stands_in_the_file_s_order(self):
        calls = [file("a=x. y. z"), done("a", 0, ""), done("a", 1, ""), undone("a", 1), undone("a", 0), todo()]
        self.assertEqual(last(*calls), left(("a", 0), ("a", 1), ("a", 2)))

    def test_behind_a_newer_version(self):
        calls = [file("a=x. y\nb=z"), done("a", 0, "X"), done("b", 0, "Z"), newer("b=y. z\na=y. x. x. z"), todo()]
        self.assertEqual(last(*calls), left(("b", 0), ("a", 0), ("a", 3)))

    def test_a_refused_done_is_still_to_do(self):
        self.assertEqual(last(file("a=x"), done("a", 0, "<1/>"), todo()), left(("a", 0)))

    def test_todo_changes_nothing(self):
        begun = [file(self.text), done("z", 1, "Zwei")]
        told = ask(*begun, todo(), todo(), list_all(), sentence("z", 1))
        self.assertEqual(told[2], told[3])
        self.assertEqual(told[4:], ask(*begun, list_all(), sentence("z", 1))[2:])


class Key(unittest.TestCase):
    text = "a=One. <1>Two.</1> Three\nb=\n#c=x\n\naa=One. "

    def check(self, calls, key, text, built):
        self.assertEqual(last(file(self.text), *calls, key_texts(key)), both(text, built))

    def test_no_translation(self):
        self.check([], "a", "One. <1>Two.</1> Three", "One. <1>Two.</1> Three")
        self.check([done("aa", 0, "Eins")], "a", "One. <1>Two.</1> Three", "One. <1>Two.</1> Three")

    def test_some_translations(self):
        self.check([done("a", 1, "<1></1>2")], "a", "One. <1>Two.</1> Three", "One. <1></1>2Three")
        self.check([done("a", 2, "Drei"), done("a", 0, "")], "a", "One. <1>Two.</1> Three", "<1>Two.</1> Drei")

    def test_all_translations(self):
        calls = [done("a", 2, "\\n"), done("a", 1, "\\<<1>\\t</1>"), done("a", 0, "\\\\")]
        self.check(calls, "a", "One. <1>Two.</1> Three", "\\\\\\<<1>\\t</1>\\n")
        self.check([done("aa", 0, "Eins, und mehr")], "aa", "One. ", "Eins, und mehr")

    def test_put_together_it_may_be_without_bytes(self):
        self.check([done("aa", 0, "")], "aa", "One. ", "")

    def test_a_text_without_bytes(self):
        self.check([], "b", "", "")
        self.assertEqual(last(file("b="), key_texts("b")), [0, 0])

    def test_number_by_number(self):
        told = last(file("a=x. y"), done("a", 0, "z"), key_texts("a"))
        self.assertEqual(told, [4, 120, 46, 32, 121, 2, 122, 121])

    def test_undone(self):
        self.check([done("aa", 0, "Eins"), undone("aa", 0)], "aa", "One. ", "One. ")

    def test_behind_a_newer_version(self):
        told = ask(file("a=One. Two"), done("a", 0, "Eins. "), newer("b=One. \na=Zero. One. "),
                   key_texts("a"), key_texts("b"))
        self.assertEqual(told[3:], [both("Zero. One. ", "Zero. Eins. "), both("One. ", "One. ")])

    def test_every_byte_that_may_stand_in_a_key(self):
        key = "abcdefghijklmnopqrstuvwxyz0123456789."
        self.assertEqual(last(file(key + "=x"), key_texts(key)), both("x", "x"))

    def test_sentences_put_together_are_the_text(self):
        texts = ("", " ", "One. Two! Three? Four", "<1>One. Two.</1> <2/>Three. ", "\\n. \\<. \\\\. \\t", ". . ! x.  y",
                 "<1>a. <2/></1>b. <3></3>")
        for text in texts:
            self.assertEqual("".join(sentences(text)), text)
            self.assertEqual(last(file("k=" + text), key_texts("k")), both(text, text))


class NoSuchKey(unittest.TestCase):
    def test_a_key_that_is_not_there(self):
        keys = ("b", "c", "aa", "A", "a=", "# a", "#a", "x" * 420, [97 + 256], [4294967295], [97, 0])
        for key in keys:
            self.assertEqual(last(file("a=One\n#c=Two\n# a=Two"), key_texts(key)), [-2], key)

    def test_an_empty_key(self):
        for text in ("", "\n", "a=x", "#=x"):
            self.assertEqual(last(file(text), key_texts("")), [-2])

    def test_before_any_file(self):
        self.assertEqual(ask(key_texts("a"), key_texts("")), [[-2], [-2]])

    def test_what_a_file_no_longer_has(self):
        for call in (file, newer):
            told = ask(file("a=One\nb="), call("c="), key_texts("a"), key_texts("b"), key_texts("c"))
            self.assertEqual(told[2:], [[-2], [-2], [0, 0]])

    def test_a_refused_call_changes_nothing(self):
        begun = [file("a=One"), done("a", 0, "Eins")]
        rest = [list_all(), todo(), key_texts("a")]
        self.assertEqual(ask(*begun, key_texts("b"), *rest)[3:], ask(*begun, *rest)[2:])


if __name__ == "__main__":
    unittest.main()
