"""Sentences: where a text is cut, and what list and sentence answer (promise 2)."""

import unittest

from tests.helper import ask, done, file, last, list_all, listed, newer, sentence, sentences, shown


class Cuts(unittest.TestCase):
    def check(self, *parts):
        self.assertEqual(sentences("".join(parts)), list(parts))

    def test_a_text_without_things(self):
        self.check()

    def test_one_sentence(self):
        self.check("x")
        self.check("One")
        self.check("One.")
        self.check("One. ")
        self.check(" ")

    def test_behind_each_stop(self):
        self.check("One. ", "Two! ", "Three? ", "Four")

    def test_no_other_byte_is_a_stop(self):
        for byte in ",:;)\"'>/-1\\":
            text = "One" + byte.replace("\\", "\\\\") + " Two"
            self.check(text)

    def test_a_blank_must_stand_there(self):
        self.check("One.Two!Three?Four")
        self.check("1.2. ", "3")

    def test_several_blanks_and_stops(self):
        self.check("One.   ", "Two")
        self.check("What?! ", "Yes... ", "No")
        self.check("One .  ", "Two")

    def test_a_stop_may_begin_a_sentence(self):
        self.check(". ", ". ", "! ", "x")

    def test_a_blank_ahead_of_the_stop_is_none_behind_it(self):
        self.check("a .b")
        self.check("a .<1/>b")

    def test_blanks_at_the_begin(self):
        self.check("  One. ", "Two")

    def test_what_follows_may_be_any_byte(self):
        self.check("One. ", "two")
        self.check("One. ", "#two")
        self.check("One. ", "\\nTwo")
        self.check("One. ", "\\<Two")
        self.check("One. ", "\\\\")
        self.check("One. ", ">")

    def test_signs_are_no_blanks(self):
        self.check("One.\\nTwo")
        self.check("One.\\tTwo")
        self.check("One. ", "\\n Two")
        self.check("One.\\n Two")
        self.check("One.\\\\ Two")
        self.check("One.\\< Two")

    def test_bytes_beside_the_blank_are_no_blanks(self):
        self.check("One.\xa0Two")
        self.check("One.!Two")


class CutsAtTags(unittest.TestCase):
    check = Cuts.check

    def test_no_cut_while_a_tag_is_open(self):
        self.check("<1>One. Two.</1> ", "Three")
        self.check("<1><2>One. </2>Two. </1>", "Three")
        self.check("<1>One. <2/>Two</1>")
        self.check("<1>One. <2>Two</2></1>")

    def test_closing_tags_behind_the_stop(self):
        self.check("<1>One.</1> ", "Two")
        self.check("<1>One. </1>", "Two")
        self.check("<1><2>One.</2> </1>", "Two")
        self.check("<1>One.</1>Two")

    def test_tags_alone_behind_the_stop(self):
        self.check("One.<1/> ", "Two")
        self.check("One.<1/> ", "<2/>Two")
        self.check("One.<1/>Two")
        self.check("One.<1/><2/>Two")

    def test_cut_ahead_of_a_tag_alone(self):
        self.check("One. ", "<1/>Two")
        self.check("One. ", "<1/> Two")
        self.check("One. ", "<1/> <2/> Two")
        self.check("One. ", "<1/>")

    def test_a_tag_alone_behind_a_blank_within_a_pair(self):
        self.check("<1>One. <2/></1>", "Two")
        self.check("<1>One.<2/> </1>", "Two")
        self.check("<1>One.<2/></1>Two")
        self.check("<1>One. <2/></1>", "<3/>Two")

    def test_cut_ahead_of_an_opening_tag(self):
        self.check("One. ", "<1>Two</1>")
        self.check("One. ", "<1></1>")

    def test_an_opening_tag_behind_the_stop(self):
        self.check("One.<1> </1>Two")
        self.check("One.<1></1> Two")
        self.check("<1>One.<2> </2></1>Two")

    def test_no_cut_ahead_of_a_closing_tag(self):
        self.check("<1>One. </1> ", "Two")
        self.check("<1>One. </1>")

    def test_what_is_ahead_of_the_cut_before_does_not_count(self):
        self.check("One. ", "<1/> ! ", "x")
        self.check("One. ", "<1></1> x")


class ListAndSentence(unittest.TestCase):
    def test_nothing_is_there_at_the_begin(self):
        self.assertEqual(ask(list_all(), sentence("a", 0), sentence("", 0)), [[0], [-2], [-2]])

    def test_list_tells_keys_in_the_file_s_order(self):
        text = "z=One. Two\n# z.a=No\nab.1=\n\na=<1/>\\n"
        rows = [("z", 0, 5, 0), ("z", 1, 3, 0), ("a", 0, 6, 0)]
        self.assertEqual(ask(file(text), list_all()), [[3, 3, 0], listed(*rows)])

    def test_list_tells_what_is_done(self):
        calls = [file("a=One. Two\nb=One. "), done("b", 0, "Eins, und mehr"), done("a", 1, ""), list_all()]
        self.assertEqual(last(*calls), listed(("a", 0, 5, 0), ("a", 1, 3, 1), ("b", 0, 5, 1)))

    def test_list_number_by_number(self):
        told = last(file("ab=One"), done("ab", 0, "Eins"), list_all())
        self.assertEqual(told, [1, 2, 97, 98, 0, 3, 1])

    def test_sentence_number_by_number(self):
        told = ask(file("a=<1>x</1>\\n"), sentence("a", 0), done("a", 0, "<1></1>y"), sentence("a", 0))
        self.assertEqual(told[1], [10, 60, 49, 62, 120, 60, 47, 49, 62, 92, 110, 0])
        self.assertEqual(told[3], told[1][:-1] + [1, 8, 60, 49, 62, 60, 47, 49, 62, 121])

    def test_signs_stay_as_they_are_written(self):
        text = "\\n\\t\\\\\\<>"
        told = ask(file("a=" + text), list_all(), sentence("a", 0))
        self.assertEqual(told[1:], [listed(("a", 0, 9, 0)), shown(text)])

    def test_a_text_may_hold_an_equals_sign(self):
        self.assertEqual(last(file("a==b=c"), sentence("a", 0)), shown("=b=c"))

    def test_all_sentences_of_several_keys(self):
        calls = [sentence("a", 0), sentence("a", 1), sentence("b", 0), sentence("b", 1)]
        self.assertEqual(ask(file("a=One. Two.\nb=One. Three."), *calls)[1:], [shown(text) for text in ("One. ", "Two.", "One. ", "Three.")])

    def test_no_such_number(self):
        for number in (2, 3, 256, 4294967295):
            self.assertEqual(last(file("a=One. Two"), sentence("a", number)), [-2])

    def test_no_such_key(self):
        keys = ("b", "", "aa", "A", "a=", "# a", "x" * 420, [97 + 256], [4294967295], [97, 0])
        for key in keys:
            self.assertEqual(last(file("a=One\n# a=Two"), sentence(key, 0)), [-2])

    def test_a_key_without_sentences(self):
        self.assertEqual(ask(file("a=\nb=x"), sentence("a", 0), sentence("b", 0))[1:], [[-2], shown("x")])

    def test_what_a_file_no_longer_has(self):
        for call in (file, newer):
            told = ask(file("a=One. Two\nb=x"), call("a=One. "), sentence("a", 1), sentence("b", 0), list_all())
            self.assertEqual(told[1:], [[1, 1, 0], [-2], [-2], listed(("a", 0, 5, 0))])


if __name__ == "__main__":
    unittest.main()
