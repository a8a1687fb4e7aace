"""Promise 1: what file and newer take, and what they refuse."""

import unittest

from tests.helper import ask, done, file, last, list_all, listed, newer, sentence, shown


class FileCase(unittest.TestCase):
    def check(self, text, answer):
        """file and newer refuse alike, and count alike where nothing was done."""
        self.assertEqual(last(file(text)), answer, text)
        self.assertEqual(last(newer(text)), answer, text)


class Ordinary(FileCase):
    def test_counts_keys_and_sentences(self):
        self.check("a=One. Two.\nb=Three", [2, 3, 0])

    def test_kept_lines_are_no_keys(self):
        self.check("# a remark\n\na=One\n#b=Two\n", [1, 1, 0])

    def test_a_kept_line_may_hold_anything(self):
        self.check([35, 9, 92, 60, 0, 255, 61, 10, 35], [0, 0, 0])

    def test_a_file_without_bytes(self):
        self.check("", [0, 0, 0])

    def test_lines_without_bytes(self):
        self.check("\n\n", [0, 0, 0])

    def test_a_key_with_an_empty_text_is_a_key(self):
        self.check("a=\nb=x", [2, 1, 0])

    def test_every_byte_that_may_stand_in_a_key(self):
        key = "abcdefghijklmnopqrstuvwxyz0123456789."
        self.assertEqual(ask(file(key + "=x"), list_all()), [[1, 1, 0], listed((key, 0, 1, 0))])

    def test_keys_of_one_byte_of_each_kind(self):
        self.check(".=x\n0=x\n9=x\na=x\nz=x", [5, 5, 0])

    def test_every_byte_that_may_stand_in_a_text(self):
        text = [byte for byte in range(256) if byte not in (9, 10, 60, 92)]
        self.assertEqual(ask(file([97, 61] + text), sentence("a", 0)), [[1, 1, 0], shown(text)])

    def test_a_number_sign_behind_the_first_byte_is_no_remark(self):
        self.check("a=#x", [1, 1, 0])
        self.check("a#=x", [-1001])

    def test_file_forgets_what_was_done(self):
        calls = [file("a=One"), done("a", 0, "Eins"), file("a=One"), sentence("a", 0)]
        self.assertEqual(ask(*calls)[2:], [[1, 1, 0], shown("One")])

    def test_newer_as_the_first_call(self):
        self.assertEqual(ask(newer("a=One"), sentence("a", 0)), [[1, 1, 0], shown("One")])


class Sizes(FileCase):
    def test_400_bytes(self):
        self.check("a=" + "x" * 398, [1, 1, 0])

    def test_401_bytes(self):
        self.check("a=" + "x" * 399, [-1])
        self.check("#" * 401, [-1])

    def test_420_bytes(self):
        self.check("\n" * 420, [-1])

    def test_a_byte_255(self):
        self.check([97, 61, 255], [1, 1, 0])

    def test_a_number_256(self):
        self.check([97, 61, 256], [-1])
        self.check([35, 256], [-1])
        self.check([35, 4294967295], [-1])

    def test_size_and_numbers_come_ahead_of_a_fault(self):
        self.check("A" * 401, [-1])
        self.check([65, 10, 256], [-1])


class Faults(FileCase):
    def test_a_byte_that_cannot_stand_in_a_key(self):
        for byte in range(256):
            if byte in b"abcdefghijklmnopqrstuvwxyz0123456789.=" or byte == 10:
                continue
            self.check([97, 98, byte, 61], [-1002])
            if byte != 35:
                self.check([byte, 61], [-1000])

    def test_no_key(self):
        self.check("=x", [-1000])

    def test_no_equals_sign(self):
        self.check("abc", [-1003])
        self.check("a", [-1001])

    def test_the_line_counts(self):
        self.check("#\n\na=x\nB=x", [-4000])
        self.check("a=x\nb=x\nc", [-3001])
        self.check("\n" * 398 + "=", [-1000 - 398000])

    def test_a_byte_9(self):
        self.check("a=\t", [-1002])
        self.check("a=xyz\t", [-1005])

    def test_a_wrong_byte_behind_a_backslash(self):
        for byte in range(256):
            if byte != 10:
                answer = [1, 1, 0] if byte in b"nt\\<" else [-1004]
                self.check([97, 61, 120, 92, byte], answer)

    def test_a_backslash_at_the_end(self):
        self.check("a=\\", [-1003])
        self.check("a=\\\\\\", [-1005])
        self.check("a=x\\\nb=y", [-1004])

    def test_wrong_bytes_within_a_tag(self):
        self.check("a=<x", [-1003])
        self.check("a=<>", [-1003])
        self.check("a=< 1>", [-1003])
        self.check("a=<<1>", [-1003])
        self.check("a=</x>", [-1004])
        self.check("a=<//>", [-1004])
        self.check("a=<12>", [-1004])
        self.check("a=<1x", [-1004])
        self.check("a=</12>", [-1005])
        self.check("a=</1/>", [-1005])
        self.check("a=<1/x>", [-1005])
        self.check("a=<1//>", [-1005])
        self.check("a=<1\t", [-1004])

    def test_tags_that_end_with_the_line(self):
        self.check("a=<", [-1003])
        self.check("a=</", [-1004])
        self.check("a=<1", [-1004])
        self.check("a=<1/", [-1005])
        self.check("a=</1", [-1005])
        self.check("a=<1>x</1", [-1009])

    def test_the_bytes_beside_the_digits(self):
        self.check("a=<0/><9/>", [1, 1, 0])
        self.check("a=<:/>", [-1003])
        self.check("a=</:>", [-1004])

    def test_a_tag_s_last_sign_alone_is_a_byte(self):
        self.check("a=>/1>", [1, 1, 0])


class WrongTags(FileCase):
    def test_tags_that_are_right(self):
        right = ("<1></1>", "<1><2></2></1>", "<1></1><2></2><3/>", "<1><2/></1>", "<1>/</1>", "/<1></1>/>", "<1/>/")
        for text in right:
            self.check("a=" + text, [1, 1, 0])

    def test_tags_that_are_wrong(self):
        wrong = ("<1>", "</1>", "<1></2>", "<1><2></1></2>", "<1></1><1></1>", "<1/><1/>", "<1></1><1/>",
                 "<1/><1></1>", "<1><1></1></1>", "<1><1/></1>", "<1></1></1>", "</1><1>", "<1/></1>", "<2><1></1>")
        for text in wrong:
            self.check("a=" + text, [-1998])
            self.check("#\nb=x\na=" + text, [-3998])

    def test_a_digit_may_stand_in_several_lines(self):
        self.check("a=<1/>\nb=<1></1>", [2, 2, 0])

    def test_escaped_tags_are_none(self):
        self.check("a=\\<1>", [1, 1, 0])

    def test_a_fault_of_bytes_behind_wrong_tags(self):
        self.check("a=</1>\t", [-1006])
        self.check("a=<1><1", [-1007])


class Keys(FileCase):
    def test_a_key_twice(self):
        self.check("a=x\na=y", [-2999])
        self.check("a=x\n#\nb=x\n\na=x", [-5999])

    def test_the_first_line_whose_key_stands_earlier(self):
        self.check("a=\nb=\nb=\na=", [-3999])
        self.check("a=\na=\na=", [-2999])

    def test_keys_are_whole(self):
        self.check("a=\naa=\na.=\n.a=", [4, 0, 0])

    def test_a_remark_is_no_earlier_key(self):
        self.check("#a=\na=", [1, 0, 0])


class Several(FileCase):
    def test_the_first_line_is_told(self):
        self.check("a=<1>\nB", [-1998])
        self.check("B\na=<1>", [-1000])
        self.check("a=\\x\nb=\t", [-1003])

    def test_the_first_place_is_told(self):
        self.check("a=\\x\t<", [-1003])
        self.check("aB\t", [-1001])

    def test_a_later_line_comes_ahead_of_a_key_twice(self):
        self.check("a=\na=\nB", [-3000])
        self.check("a=\na=\nb=<1>", [-3998])

    def test_a_line_with_a_fault_and_a_key_twice(self):
        self.check("a=\na=\t", [-2002])
        self.check("a=\na=<1>", [-2998])


class AsItWas(unittest.TestCase):
    def test_a_refused_call_changes_nothing(self):
        begun = [file("a=One. Two.\nb="), done("a", 1, "Zwei.")]
        for bad in ("x" * 401, [256], "B", "a=<1>", "a=\na="):
            for call in (file(bad), newer(bad)):
                told = ask(*begun, call, list_all(), sentence("a", 1), newer("a=One. Two.\nb="))
                self.assertEqual(len(told[2]), 1)
                self.assertLess(told[2][0], 0)
                self.assertEqual(told[3], listed(("a", 0, 5, 0), ("a", 1, 4, 1)))
                self.assertEqual(told[4:], [shown("Two.", "Zwei."), [2, 2, 1]])


if __name__ == "__main__":
    unittest.main()
