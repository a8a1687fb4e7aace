"""All nine calls in many orders, against the document's words put another way."""

import itertools
import random
import re
import unittest

from tests import helper
from tests.test_all_short_texts import are_right, cut, place_of_fault, tags

THING = re.compile(r"\\.|<\d>|</\d>|<\d/>|.", re.DOTALL)
LINE = re.compile(r"^([a-z0-9.]+)=(.*)$", re.MULTILINE)


class Model:
    """The file is kept as one text, and what's done as one list of (key, number, sentence, translation)."""

    def __init__(self):
        self.text = ""
        self.work = []

    def fault(self, text):
        if len(text) > 400 or any(sign > "\xff" for sign in text):
            return -1
        lines = [(number, line) for number, line in enumerate(text.split("\n")) if line and line[0] != "#"]
        for number, line in lines:
            place = place_of_fault(line)
            if place is None and not are_right(tags(line.split("=", 1)[1])):
                place = 998
            if place is not None:
                return -1000 * (number + 1) - place
        keys = [line.split("=")[0] for number, line in lines]
        again = [number for ahead, (number, line) in enumerate(lines) if keys[ahead] in keys[:ahead]]
        return -1000 * (again[0] + 1) - 999 if again else 0

    def spots(self, text):
        return [(key, number, sentence) for key, whole in LINE.findall(text)
                for number, sentence in enumerate(cut(THING.findall(whole)))]

    def work_at(self, key, number):
        return [each for each in self.work if each[:2] == (key, number)]

    def stands(self):
        return [len(LINE.findall(self.text)), len(self.spots(self.text)), len(self.work)]

    def put(self, key, whole):
        found = []
        for number, sentence in enumerate(cut(THING.findall(whole))):
            found.append(self.work_at(key, number)[0][3] if self.work_at(key, number) else sentence)
        return "".join(found)

    def file(self, text):
        if self.fault(text):
            return [self.fault(text)]
        self.text, self.work = text, []
        return self.stands()

    def newer(self, text):
        if self.fault(text):
            return [self.fault(text)]
        work = []
        for key, number, sentence in self.spots(text):
            fits = [each for each in self.work if (each[0], each[2]) == (key, sentence)]
            fits = [each for each in fits if each[1] == number] + fits
            work.extend((key, number, sentence, each[3]) for each in fits[:1])
        self.text, self.work = text, work
        return self.stands()

    def list_all(self):
        return helper.listed(*[(key, number, len(sentence), len(self.work_at(key, number)))
                               for key, number, sentence in self.spots(self.text)])

    def sentence(self, key, number):
        for spot in self.spots(self.text):
            if spot[:2] == (key, number):
                return helper.shown(spot[2], *[each[3] for each in self.work_at(key, number)])
        return [-2]

    def done(self, key, number, translation):
        if len(translation) > 100 or any(sign > "\xff" for sign in translation):
            return [-1]
        at = [spot for spot in self.spots(self.text) if spot[:2] == (key, number)]
        if not at:
            return [-2]
        if "\n" in translation:
            return [-1]
        place = place_of_fault("k=" + translation)
        if place is not None:
            return [-1000 - place + 2]
        if not are_right(tags(translation)) or sorted(tags(translation)) != sorted(tags(at[0][2])):
            return [-4]
        self.work = [each for each in self.work if each[:2] != (key, number)] + [at[0] + (translation,)]
        return self.stands()

    def undone(self, key, number):
        if not self.work_at(key, number):
            return [-2]
        self.work.remove(self.work_at(key, number)[0])
        return self.stands()

    def build(self):
        return helper.row(LINE.sub(lambda found: found[1] + "=" + self.put(found[1], found[2]), self.text))

    def todo(self):
        return helper.left(*[spot[:2] for spot in self.spots(self.text) if not self.work_at(*spot[:2])])

    def key_texts(self, key):
        whole = dict(LINE.findall(self.text)).get(key)
        return [-2] if whole is None else helper.both(whole, self.put(key, whole))


NINE = [
    ("file", "a=x. y. x. \n#\nb=<1>x</1>"), ("newer", "b=x. <1>x</1>\n\na=z. y. x. x. "), ("list_all",),
    ("sentence", "a", 2), ("done", "a", 2, "X"), ("undone", "a", 2), ("build",), ("todo",), ("key_texts", "a")]
PARTS = ["x. ", "y. ", "x", "<1>x.</1> ", "<2/>", "\\n! ", "", "<3>y. z. </3>", "\\\\\\<? "]
BAD_LINES = ["A=x", "a", "=x", "a=\t", "a=<", "b=<1>", "a=</1>", "a=x\na=y", "\u0100", "#" * 401]
KEYS = ["a", "a", "a", "b", "b", "c.1", "", "A", "\u0161"]
NUMBERS = [0, 0, 0, 1, 1, 2, 2, 3, 4294967295]
TRANSLATIONS = ["X", "Y", "", "X. Y. ", "\\n", "\\<\\\\\\t", "<1>X</1>", "<1></1>", "<2/>", "<3>.</3>", "<2/>Z",
                "<1>", "<1/>", "\n", "\t", "X\\", "<", "</3", "\u0100", "X" * 100, "X" * 101]


def some_file(source):
    lines = []
    for key in source.sample(["a", "b", "c.1"], source.randint(0, 3)):
        lines.append(key + "=" + "".join(source.choices(PARTS, k=source.randint(0, 5))))
    lines.extend(source.choices(["", "# x. ", "#a=x"], k=source.randint(0, 2)))
    if source.random() < 0.1:
        lines.append(source.choice(BAD_LINES))
    source.shuffle(lines)
    return "\n".join(lines)


def some_call(source):
    name = source.choices([call[0] for call in NINE], [1, 3, 2, 3, 9, 4, 2, 2, 2])[0]
    if name in ("file", "newer"):
        return (name, some_file(source))
    if name in ("list_all", "build", "todo"):
        return (name,)
    key = source.choice(KEYS)
    if name == "key_texts":
        return (name, key)
    number = source.choice(NUMBERS)
    return (name, key, number, source.choice(TRANSLATIONS)) if name == "done" else (name, key, number)


class ManyOrders(unittest.TestCase):
    def check(self, calls):
        model = Model()
        expected = [getattr(model, name)(*rest) for name, *rest in calls]
        told = helper.ask(*[getattr(helper, name)(*rest) for name, *rest in calls])
        self.assertEqual(told, expected, calls)
        return told

    def test_each_call_first(self):
        for call in NINE:
            self.check([call])

    def test_before_any_file(self):
        rest = [call for call in NINE if call[0] not in ("file", "newer")]
        for calls in itertools.permutations(rest, 4):
            self.check(calls)

    def test_four_calls_in_every_order(self):
        begun = [NINE[0], ("done", "a", 0, "A"), ("done", "b", 0, "<1>B</1>")]
        for calls in itertools.product(NINE, repeat=4):
            self.check([*begun, *calls])

    def test_all_nine_in_many_orders(self):
        source = random.Random(9)
        for time in range(1000):
            calls = source.sample(NINE, 9)
            self.check(calls)
            self.check([NINE[0], *calls, *reversed(calls), *calls])

    def test_thirty_calls(self):
        source = random.Random(30)
        seen = {}
        for time in range(1500):
            calls = [("file", some_file(source))] * (time % 2) + [some_call(source) for place in range(30)]
            for call, told in zip(calls, self.check(calls[:30])):
                kind = (call[0], told[0] if told[0] in (-1, -2, -4) else "a fault" if told[0] < 0 else "taken")
                seen[kind] = seen.get(kind, 0) + 1
        # Each call has been taken and refused in every way that it can be.
        self.assertEqual(sorted(seen, key=str), sorted([
            ("file", "taken"), ("file", -1), ("file", "a fault"), ("newer", "taken"), ("newer", -1),
            ("newer", "a fault"), ("list_all", "taken"), ("sentence", "taken"), ("sentence", -2), ("done", "taken"),
            ("done", -1), ("done", -2), ("done", "a fault"), ("done", -4), ("undone", "taken"), ("undone", -2),
            ("build", "taken"), ("todo", "taken"), ("key_texts", "taken"), ("key_texts", -2)], key=str))
        self.assertGreater(min(seen.values()), 20)


if __name__ == "__main__":
    unittest.main()
