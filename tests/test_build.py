"""build: the file put together, with and without translations."""

import unittest

from tests.helper import ask, build, done, file, last, list_all, newer, row, sentence, undone


class WithoutTranslations(unittest.TestCase):
    def check(self, text):
        self.assertEqual(last(file(text), build()), row(text))
        self.assertEqual(last(newer(text), build()), row(text))
        self.assertEqual(last(file("b=One"), done("b", 0, "Eins"), newer(text), build()), row(text))

    def test_a_file_without_bytes(self):
        self.check("")
        self.assertEqual(last(build()), [0])

    def test_lines_without_bytes(self):
        self.check("\n")
        self.check("\n\n\n")
        self.check("\n" * 400)
        self.check("\n\na=One\n\n\nc=Two\n")

    def test_kept_lines(self):
        self.check("#")
        self.check("# a remark\n#a=No\n#\n")
        self.check("#a=One. <1> \\ \t\na=One. ")
        self.check([35] + [byte for byte in range(256) if byte != 10])

    def test_lines_at_the_end(self):
        self.check("a=One")
        self.check("a=One\n")
        self.check("a=One\n\n")
        self.check("a=One\n#")

    def test_texts(self):
        self.check("a=")
        self.check("a=\nc=\n")
        self.check("a==")
        self.check("a= One.  Two! <1>Three? </1> \n.=<2/>. <3/>x\n0=\\n\\t\\\\\\< . ")
        self.check([97, 61] + [byte for byte in range(256) if byte not in (9, 10, 60, 92)])

    def test_400_bytes(self):
        self.check("a=" + "x. " * 132 + "yz")

    def test_lines_keep_their_order(self):
        self.check("z=1\ny=2\n#\na=3\nm=4")


class WithTranslations(unittest.TestCase):
    text = "# One. \n\na=One. Two.  <1>Three</1>\n#\nb=One. \nc=\n"

    def check(self, text, *translations):
        """Behind translations (key, number, translation), the file is as told."""
        self.assertEqual(last(file(self.text), *[done(*each) for each in translations], build()), row(text))

    def test_longer(self):
        self.check("# One. \n\na=Eins, und noch mehr. Two.  <1>Three</1>\n#\nb=One. \nc=\n",
                   ("a", 0, "Eins, und noch mehr. "))

    def test_shorter(self):
        self.check("# One. \n\na=One. x<1>Three</1>\n#\nb=One. \nc=\n", ("a", 1, "x"))

    def test_empty(self):
        self.check("# One. \n\na=One. <1>Three</1>\n#\nb=One. \nc=\n", ("a", 1, ""))
        self.check("# One. \n\na=One. Two.  <1>Three</1>\n#\nb=\nc=\n", ("b", 0, ""))

    def test_with_tags(self):
        self.check("# One. \n\na=One. Two.  <1></1>3\n#\nb=One. \nc=\n", ("a", 2, "<1></1>3"))

    def test_with_signs(self):
        for sign in ("\\n", "\\t", "\\\\", "\\<", "\\<1>", "\\\\n"):
            self.check("# One. \n\na=One. Two.  <1>Three</1>\n#\nb=" + sign + "\nc=\n", ("b", 0, sign))

    def test_all(self):
        self.check("# One. \n\na=A B <1>C</1>\n#\nb=D\nc=\n",
                   ("b", 0, "D"), ("a", 2, "<1>C</1>"), ("a", 0, "A "), ("a", 1, "B "))

    def test_done_again(self):
        self.check("# One. \n\na=One. Two.  <1>Three</1>\n#\nb=E\nc=\n", ("b", 0, "D"), ("b", 0, "E"))

    def test_every_byte_that_may_stand_there(self):
        for byte in range(256):
            if byte not in (9, 10, 60, 92):
                self.assertEqual(last(file("a=One\n"), done("a", 0, [byte]), build()), [4, 97, 61, byte, 10])

    def test_what_looks_like_a_line_is_none(self):
        self.check("# One. \n\na=One. Two.  <1>Three</1>\n#\nb=#b=x\nc=\n", ("b", 0, "#b=x"))

    def test_a_refused_one(self):
        for translation in ("\n", "\t", "<1/>", [256], "x" * 101):
            self.check(self.text, ("b", 0, translation))

    def test_undone(self):
        told = last(file("a=One. Two"), done("a", 0, "A"), done("a", 1, "B"), undone("a", 0), build())
        self.assertEqual(told, row("a=One. B"))

    def test_build_changes_nothing(self):
        calls = [file(self.text), done("a", 1, "B"), build(), build(), list_all(), sentence("a", 1), build()]
        told = ask(*calls)
        self.assertEqual(told[2], told[3])
        self.assertEqual(told[2], told[6])
        self.assertEqual(told[4:6], ask(*calls[:2], *calls[4:6])[2:])

    def test_it_may_be_longer_than_a_file(self):
        translations = [done("a", number, "y" * 99 + " ") for number in range(28)]
        told = last(file("a=" + "x. " * 28), *translations, build())
        self.assertEqual(told, row("a=" + ("y" * 99 + " ") * 28))


class AFileAgain(unittest.TestCase):
    """With translations: the same lines and keys, and a file that's taken."""

    text = "#\n\na=<1>One.</1> <2/>Two\\n! Three? \n.0=<1><2/></1>\n\n# end\nz=\n"
    translations = [("a", 0, "E. <1>. </1> F"), ("a", 1, "\\<<2/>\\\\. "), ("a", 2, ""), (".0", 0, "<2/>. <1>=</1>#")]

    def test_the_same_lines_and_keys(self):
        for size in range(len(self.translations) + 1):
            told = last(file(self.text), *[done(*each) for each in self.translations[:size]], build())
            built = bytes(told[1:]).decode("latin-1")
            lines, before = built.split("\n"), self.text.split("\n")
            self.assertEqual([line.partition("=")[:2] for line in lines], [line.partition("=")[:2] for line in before])
            self.assertEqual(last(file(built))[0], 3)
            self.assertEqual(last(file(built), build()), told)


class BehindNewer(unittest.TestCase):
    def test_what_is_done_stays_with_its_text(self):
        told = last(file("a=One. Two\nb=x"), done("a", 0, "Eins. "), done("b", 0, "y"),
                    newer("#\nb=z. x\n\na=Two. One. One. "), build())
        self.assertEqual(told, row("#\nb=z. y\n\na=Two. Eins. Eins. "))

    def test_what_is_gone_is_not_put_in(self):
        calls = [file("a=One. Two"), done("a", 0, "Eins. "), newer("a=Two"), build(), newer("a=One. Two"), build()]
        told = ask(*calls)
        self.assertEqual([told[3], told[5]], [row("a=Two"), row("a=One. Two")])

    def test_the_lines_are_the_newer_version_s(self):
        told = ask(file("a=x\n\n#"), done("a", 0, "y"), newer("\n# new\n.=\na=x"), build(), newer(""), build())
        self.assertEqual([told[3], told[5]], [row("\n# new\n.=\na=y"), [0]])

    def test_a_refused_one_leaves_the_file(self):
        for bad in ("x" * 401, [256], "B", "a=<1>", "a=\na="):
            for call in (file(bad), newer(bad)):
                told = last(file("#\na=One. Two\n"), done("a", 1, "Zwei"), call, build())
                self.assertEqual(told, row("#\na=One. Zwei\n"))

    def test_file_puts_nothing_in(self):
        self.assertEqual(last(file("a=One"), done("a", 0, "Eins"), file("a=One"), build()), row("a=One"))


if __name__ == "__main__":
    unittest.main()
