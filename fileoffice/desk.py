"""One file on its way through the office: its sentences, and what's done of them."""

from fileoffice.lines import LINE_END, file_fault, file_of, is_kept, key_of, line_of, lines_of, texts_of
from fileoffice.reading import IN_TEXT, fault_place
from fileoffice.sentences import sentences_of
from fileoffice.things import are_tags_right, tags_of, things_of

MOST_FILE_BYTES = 400
MOST_TRANSLATION_BYTES = 100

NOT_BYTES = -1
NO_SENTENCE = -2
NO_KEY = -2
NO_TRANSLATION = -4
FIRST_FAULT = -1000


# Sentences and translations stand by spot, that is by key and number:
# sentences in the file's order, translations in the order in which they were done.
class Desk:
    def __init__(self):
        self.lines = lines_of([])
        self.texts = {}
        self.sentences = {}
        self.translations = {}

    def lay_file(self, text):
        return self.lay(text, False)

    def lay_newer(self, text):
        return self.lay(text, True)

    def lay(self, text, is_newer):
        if not are_bytes(text, MOST_FILE_BYTES):
            return [NOT_BYTES]
        lines = lines_of(text)
        fault = file_fault(lines)
        if fault is not None:
            return [fault]
        texts = texts_of(lines)
        sentences = numbered_sentences(texts)
        self.translations = self.brought_over(sentences) if is_newer else {}
        self.lines = lines
        self.texts = texts
        self.sentences = sentences
        return self.standing()

    # The translations of a newer version's sentences, in that version's order.
    def brought_over(self, sentences):
        first = self.first_done()
        translations = {}
        for spot, sentence in sentences.items():
            text_in_key = (spot[0], sentence)
            if spot in self.translations and self.sentences[spot] == sentence:
                translations[spot] = self.translations[spot]
            elif text_in_key in first:
                translations[spot] = first[text_in_key]
        return translations

    # By key and sentence, the translation that stands first in what's done.
    def first_done(self):
        first = {}
        for spot, translation in self.translations.items():
            first.setdefault((spot[0], self.sentences[spot]), translation)
        return first

    def standing(self):
        return [len(self.texts), len(self.sentences), len(self.translations)]

    def list_sentences(self):
        answer = [len(self.sentences)]
        for spot, sentence in self.sentences.items():
            answer.extend(counted(spot[0]))
            answer.extend([spot[1], len(sentence), 1 if spot in self.translations else 0])
        return answer

    def list_undone(self):
        undone = [spot for spot in self.sentences if spot not in self.translations]
        answer = [len(undone)]
        for spot in undone:
            answer.extend(counted(spot[0]))
            answer.append(spot[1])
        return answer

    def show_sentence(self, key, number):
        spot = (tuple(key), number)
        if spot not in self.sentences:
            return [NO_SENTENCE]
        answer = counted(self.sentences[spot])
        if spot not in self.translations:
            return answer + [0]
        return answer + [1] + counted(self.translations[spot])

    def put_translation(self, key, number, translation):
        spot = (tuple(key), number)
        refusal = self.refusal_of(spot, translation)
        if refusal is not None:
            return [refusal]
        # Taken out first, so that what's done again stands behind all others.
        self.translations.pop(spot, None)
        self.translations[spot] = tuple(translation)
        return self.standing()

    def take_translation_away(self, key, number):
        spot = (tuple(key), number)
        # Only the file's own sentences are ever done, so this refuses what isn't there too.
        if spot not in self.translations:
            return [NO_SENTENCE]
        self.translations.pop(spot)
        return self.standing()

    # Why this can't be the translation of the sentence there, or None.
    def refusal_of(self, spot, translation):
        if not are_bytes(translation, MOST_TRANSLATION_BYTES):
            return NOT_BYTES
        if spot not in self.sentences:
            return NO_SENTENCE
        if LINE_END in translation:
            return NOT_BYTES
        place = fault_place(translation, IN_TEXT)
        if place is not None:
            return FIRST_FAULT - place
        return None if is_translation(translation, self.sentences[spot]) else NO_TRANSLATION

    def show_key(self, key):
        known = tuple(key)
        if known not in self.texts:
            return [NO_KEY]
        return counted(self.texts[known]) + counted(self.built_text(known))

    def build_file(self):
        return counted(file_of([self.built_line(line) for line in self.lines]))

    def built_line(self, line):
        if is_kept(line):
            return line
        key = key_of(line)
        return line_of(key, self.built_text(key))

    def built_text(self, key):
        text = []
        spot = (key, 0)
        while spot in self.sentences:
            text.extend(self.translations.get(spot, self.sentences[spot]))
            spot = (key, spot[1] + 1)
        return text


def are_bytes(row, most):
    return len(row) <= most and all([number <= 255 for number in row])


def numbered_sentences(texts):
    sentences = {}
    for key, text in texts.items():
        for number, sentence in enumerate(sentences_of(text)):
            sentences[(key, number)] = sentence
    return sentences


def is_translation(translation, sentence):
    things = things_of(translation)
    return are_tags_right(things) and tags_of(things) == tags_of(things_of(sentence))


def counted(row):
    return [len(row)] + list(row)
