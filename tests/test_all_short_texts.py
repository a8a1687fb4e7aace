"""Every short line and text, against the document's words put another way."""

import itertools
import re
import unittest

from tests.helper import ask, both, build, done, file, key_texts, last, row, sentences

WHOLE = re.compile(r"[a-z0-9.]+=(\\[nt\\<]|<\d>|</\d>|<\d/>|[^\t\\<])*", re.DOTALL)
UNDER_WAY = re.compile(r"([a-z0-9.]+(=(\\[nt\\<]|<\d>|</\d>|<\d/>|[^\t\\<])*(\\|<|</|</\d|<\d|<\d/)?)?)?", re.DOTALL)
TAG = re.compile(r"\\.|(<\d>|</\d>|<\d/>)", re.DOTALL)


def place_of_fault(line):
    """How long the longest part from the left is that some right line begins with; None, if the line is right."""
    if WHOLE.fullmatch(line):
        return None
    return max(size for size in range(len(line) + 1) if UNDER_WAY.fullmatch(line[:size]))


def tags(text):
    return [found for found in TAG.findall(text) if found]


def are_right(found):
    """Whether nothing is left, if pairs with nothing between them and tags alone are taken out, and no digit recurs."""
    digits = [tag[1] for tag in found if tag[1] != "/"]
    left = "".join(tag for tag in found if tag[2] != "/")
    while True:
        less = re.sub(r"<(\d)></\1>", "", left)
        if less == left:
            return not left and len(set(digits)) == len(digits)
        left = less


def cut(things):
    """The sentences of a text, each place looked at by itself."""
    parts = []
    begin = 0
    for place in range(1, len(things)):
        ahead = things[begin:place]
        depth = sum(1 for thing in things[:place] if re.fullmatch(r"<\d>", thing))
        depth -= sum(1 for thing in things[:place] if re.fullmatch(r"</\d>", thing))
        ends = re.search(r"[.!?](</\d>|<\d/>)*( (</\d>|<\d/>)*)+$", "".join(ahead))
        if depth == 0 and ends and things[place] != " " and not things[place].startswith("</"):
            parts.append("".join(ahead))
            begin = place
    if things:
        parts.append("".join(things[begin:]))
    return parts


def rows(signs, most):
    for size in range(most + 1):
        yield from itertools.product(signs, repeat=size)


class AllShort(unittest.TestCase):
    def check_line(self, line):
        place = place_of_fault(line)
        if place is not None:
            expected = [-1000 - place]
        elif not are_right(tags(line[line.index("="):])):
            expected = [-1998]
        else:
            expected = None
        told, built = ask(file(line), build())
        self.assertEqual(told if told[0] < 0 else None, expected, line)
        self.assertEqual(built, row("" if expected else line), line)

    def test_lines(self):
        for signs in rows("a=#<\t", 5):
            if signs and signs[0] != "#":
                self.check_line("".join(signs))

    def test_texts(self):
        for signs in rows("1n/<>\\\t", 5):
            self.check_line("a=" + "".join(signs))

    def test_tags(self):
        for found in rows(["<1>", "</1>", "<1/>", "<2>", "</2>", "\\<"], 5):
            self.check_line("a=" + "".join(found))

    def test_cuts(self):
        for things in rows(["x", ".", " ", "<1>", "</1>", "<2/>"], 6):
            text = "".join(things)
            if are_right(tags(text)):
                self.assertEqual(sentences(text), cut(things), text)
                self.assertEqual("".join(cut(things)), text)
                self.assertEqual(last(file("k=" + text), key_texts("k")), both(text, text))

    def test_files_of_short_lines(self):
        for lines in rows(["", "#", "a=", "b=x. y", "#a=x"], 5):
            text = "\n".join(lines)
            if lines.count("a=") < 2 and lines.count("b=x. y") < 2:
                self.assertEqual(last(file(text), build()), row(text))
                if "b=x. y" in lines:
                    told = last(file(text), done("b", 1, "z\\n"), build())
                    self.assertEqual(told, row(text.replace("y", "z\\n")))

    def test_translations_have_just_the_tags(self):
        for original in ("", "<1/>", "<1></1>", "<1/><2></2>", "<1></1><2></2>"):
            for found in rows(["<1>", "</1>", "<1/>", "<2>", "</2>", "<2/>"], 4):
                fits = are_right(found) and sorted(found) == sorted(tags(original))
                told = last(file("a=x" + original), done("a", 0, "".join(found)))
                self.assertEqual(told, [1, 1, 1] if fits else [-4], (original, found))


if __name__ == "__main__":
    unittest.main()
