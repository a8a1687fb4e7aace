"""Promises 2 and 3: what done takes, and what it refuses."""

import unittest

from tests.helper import ask, done, file, last, list_all, listed, sentence, shown


class Taken(unittest.TestCase):
    def test_how_it_stands(self):
        told = ask(file("a=One. Two\nb="), done("a", 1, "Zwei"), done("a", 0, "Eins. "))
        self.assertEqual(told, [[2, 2, 0], [2, 2, 1], [2, 2, 2]])

    def test_only_that_sentence_is_done(self):
        told = ask(file("a=x. x. \nb=x. "), done("a", 1, "y"), sentence("a", 0), sentence("a", 1), sentence("b", 0))
        self.assertEqual(told[2:], [shown("x. "), shown("x. ", "y"), shown("x. ")])

    def test_done_again(self):
        told = ask(file("a=One"), done("a", 0, "Eins"), done("a", 0, "Ein"), sentence("a", 0))
        self.assertEqual(told[1:], [[1, 1, 1], [1, 1, 1], shown("One", "Ein")])

    def test_an_empty_translation(self):
        told = ask(file("a=One"), done("a", 0, ""), sentence("a", 0), list_all())
        self.assertEqual(told[1:], [[1, 1, 1], shown("One", ""), listed(("a", 0, 3, 1))])

    def test_a_translation_may_hold_several_sentences(self):
        told = ask(file("a=One"), done("a", 0, "Eins. Zwei. "), sentence("a", 0), sentence("a", 1))
        self.assertEqual(told[1:], [[1, 1, 1], shown("One", "Eins. Zwei. "), [-2]])

    def test_signs_stay_as_they_are_written(self):
        text = "\\n\\t\\\\\\<=#>"
        self.assertEqual(last(file("a=One"), done("a", 0, text), sentence("a", 0)), shown("One", text))

    def test_every_byte_that_may_stand_there(self):
        for byte in range(256):
            if byte not in (9, 10, 60, 92):
                self.assertEqual(last(file("a=One"), done("a", 0, [byte]), sentence("a", 0)), shown("One", [byte]))

    def test_100_bytes(self):
        self.assertEqual(last(file("a=One"), done("a", 0, "x" * 100)), [1, 1, 1])


class Tags(unittest.TestCase):
    def check(self, text, translation, answer):
        self.assertEqual(last(file("a=" + text), done("a", 0, translation)), answer, (text, translation))

    def test_just_its_tags(self):
        for text in ("<1>x</1>", "<1/>", "<1><2/></1>", "<1><2></2></1><3/>", "<0/><9></9>"):
            self.check(text, text + "y", [1, 1, 1])

    def test_in_another_order(self):
        self.check("<1>x</1><2>y</2><3/>", "<3/><2>y</2><1>x</1>", [1, 1, 1])
        self.check("<1>x</1><2>y</2><3/>", "<2>y<3/><1>x</1></2>", [1, 1, 1])
        self.check("<1><2>x</2></1>", "<2><1>x</1></2>", [1, 1, 1])
        self.check("<1>x<3/></1>", "<1>x</1><3/>", [1, 1, 1])

    def test_tags_that_lack(self):
        self.check("<1>x</1>", "x", [-4])
        self.check("<1/>", "", [-4])
        self.check("<1/><2/>", "<1/>", [-4])
        self.check("<1>x</1><2/>", "<2/>", [-4])

    def test_tags_too_many(self):
        self.check("x", "<1/>", [-4])
        self.check("x", "<1></1>", [-4])
        self.check("<1/>", "<1/><2/>", [-4])

    def test_other_tags(self):
        self.check("<1/>", "<2/>", [-4])
        self.check("<1></1>", "<2></2>", [-4])
        self.check("<1></1>", "<1/>", [-4])
        self.check("<1/>", "<1></1>", [-4])
        self.check("<1></1><2/>", "<2></2><1/>", [-4])

    def test_tags_that_are_wrong(self):
        self.check("<1>x</1>", "<1>x", [-4])
        self.check("<1>x</1>", "x</1>", [-4])
        self.check("<1>x</1>", "</1>x<1>", [-4])
        self.check("<1>x</1>", "<1></1><1></1>", [-4])
        self.check("<1>x</1>", "<1></1></1>", [-4])
        self.check("<1/>", "<1/><1/>", [-4])
        self.check("<1/>", "<1/></1>", [-4])
        self.check("<1></1><2></2>", "<1><2></1></2>", [-4])
        self.check("x", "</1>", [-4])
        self.check("x", "<1>", [-4])

    def test_escaped_tags_are_none(self):
        self.check("x", "\\<1>", [1, 1, 1])
        self.check("<1/>", "\\<1/>", [-4])

    def test_only_that_sentence_s_tags(self):
        text = "a=<1>x.</1> <2/>y\nb=<3/>"
        self.assertEqual(ask(file(text), done("a", 0, "<1></1>"), done("a", 1, "<2/>"))[1:], [[2, 3, 1], [2, 3, 2]])
        for translation in ("<1></1><2/>", "<1></1>", "<3/>"):
            self.assertEqual(last(file(text), done("a", 1, translation)), [-4])


class Refused(unittest.TestCase):
    def check(self, translation, answer, key="a", number=0):
        self.assertEqual(last(file("a=One"), done(key, number, translation)), answer, translation)

    def test_101_bytes(self):
        self.check("x" * 101, [-1])
        self.check("x" * 120, [-1])

    def test_a_number_256(self):
        self.check([255], [1, 1, 1])
        self.check([256], [-1])
        self.check([120, 4294967295], [-1])

    def test_no_such_sentence(self):
        self.check("x", [-2], "a", 1)
        self.check("x", [-2], "a", 4294967295)
        self.check("x", [-2], "b", 0)
        self.check("x", [-2], "", 0)
        self.check("x", [-2], [97 + 256], 0)
        self.check("x", [-2], "a" * 420, 0)
        self.assertEqual(last(done("a", 0, "x")), [-2])
        self.assertEqual(last(file("a="), done("a", 0, "x")), [-2])

    def test_a_byte_10(self):
        self.check("\n", [-1])
        self.check("x\ny", [-1])

    def test_a_fault_and_its_place(self):
        faults = [("\t", 0), ("xy\t", 2), ("\\", 1), ("\\x", 1), ("x\\\\\\", 4), ("<", 1), ("<x", 1), ("</", 2),
                  ("</x", 2), ("<1", 2), ("<1x", 2), ("</1", 3), ("</12", 3), ("<1/", 3), ("<1/1", 3),
                  ("\\t\\n\\<<", 7)]
        for translation, place in faults:
            self.check(translation, [-1000 - place])

    def test_the_first_fault_is_told(self):
        self.check("x\t\\x<", [-1001])

    def test_a_fault_at_the_end_of_100_bytes(self):
        self.check("x" * 99 + "<", [-1100])
        self.check("x" * 99 + "\t", [-1099])

    def test_a_key_s_line_is_no_fault(self):
        self.check("#", [1, 1, 1])
        self.check("=", [1, 1, 1])


class Order(unittest.TestCase):
    check = Refused.check

    def test_size_and_numbers_come_first(self):
        self.check("x" * 101, [-1], "b")
        self.check([256], [-1], "b")
        self.check("\t" * 101, [-1])
        self.check([9, 256], [-1])
        self.check("<1/>" * 26, [-1])

    def test_then_the_sentence(self):
        self.check("\n", [-2], "b")
        self.check("\t", [-2], "b")
        self.check("<1/>", [-2], "a", 1)

    def test_then_a_byte_10(self):
        self.check("\t\n", [-1])
        self.check("\\\n", [-1])
        self.check("<\n", [-1])
        self.check("<1/>\n", [-1])

    def test_then_a_fault(self):
        self.check("<1/>\t", [-1004])
        self.check("</1>\\", [-1005])

    def test_then_the_tags(self):
        self.check("<1/>", [-4])


class AsItWas(unittest.TestCase):
    def test_a_refused_call_changes_nothing(self):
        bad = [done("a", 0, "x" * 101), done("a", 0, [256]), done("a", 2, "x"), done("b", 0, "x"),
               done("a", 0, "\n"), done("a", 0, "\t"), done("a", 0, "<1/>"), done("a", 0, "<1>")]
        for call in bad:
            for begun in ([], [done("a", 0, "Eins")]):
                rest = [list_all(), sentence("a", 0), sentence("a", 1)]
                untouched = ask(file("a=One. Two"), *begun, *rest)[-3:]
                told = ask(file("a=One. Two"), *begun, call, *rest)
                self.assertEqual(len(told[-4]), 1)
                self.assertEqual(told[-3:], untouched)


if __name__ == "__main__":
    unittest.main()
