"""The promises over the whole program: A1 and A2 of many texts, A3 of each; A4 stands in test_turn.py."""

import unittest

from again import Told, coils_again, lamps_again, switches_again, told_again
from draws import Draw, drawn_text
from flipboards.boards import devices, find, judge, kicks, places
from texts import CALLS, FAULTY, FULL, SMALLEST, TELLING, TableCase, bytes_of, largest, text_of

MANY = 40


def right_texts():
    draw = Draw(7)
    return [text_of(SMALLEST), text_of(FULL), largest()] + [drawn_text(draw) for k in range(MANY)]


def changed_bytes(draw, text):
    """The text with one to three bytes changed, taken out or put in."""
    text = list(text)
    for k in range(draw.between(1, 3)):
        place = draw.below(len(text))
        # Mostly a byte of the text itself, as others are seldom more than kind 2 or 4.
        byte = draw.below(256) if draw.below(8) == 0 else text[draw.below(len(text))]
        text[place:place + draw.below(2)] = [byte] if draw.below(3) else []
    return text


def changed_words(draw, text):
    """The text with one to three words, each taken from a line that begins alike; its last lines most often."""
    lines = [line.split(b" ") for line in bytes(text).split(b"\n")[:-1]]
    for k in range(draw.between(1, 3)):
        at = len(lines) - 1 - draw.below(draw.between(1, len(lines)))
        alike = [words for words in lines if words[0] == lines[at][0]]
        other = alike[draw.below(len(alike))]
        word = draw.below(len(other))
        lines[at] = lines[at][:word] + [other[word]] + lines[at][word + 1:]
    return list(b"".join([b" ".join(words) + b"\n" for words in lines]))


def cut_text(draw, text):
    """The text's beginning, up to any byte or up to a line's end."""
    place = draw.below(len(text))
    if draw.chance():
        return text[:place]
    return text[:text.index(10, place) + 1]


def changed_texts():
    draw = Draw(11)
    texts = [bytes_of(text) for text in right_texts()[1:] if len(text) < 2500]
    changes = (changed_bytes, changed_bytes, changed_words, changed_words, cut_text)
    return [change(draw, text) for text in texts for change in changes + changes]


def names_and_places(lines):
    return [(line.split(" ")[1], int(line.split(" ")[3])) for line in lines]


class RightTexts(TableCase):
    def test_every_call_tells_what_stands_there(self):
        for text in right_texts():
            self.check_right(text)

    def test_told_again_byte_for_byte(self):
        for text in right_texts():
            self.assertEqual(told_again(bytes_of(text)), text)

    def test_drawn_texts_have_every_sort_and_ending(self):
        texts = "".join(right_texts()[3:])
        for word in ("switch ", " turned\n", "lamp ", "coil ", " hold ", "device ", " drain\n", "kick ", " till "):
            self.assertGreater(texts.count(word), 9, word)


class TableOrFault(TableCase):
    """A1 of texts that are mostly faulty: one table's, or one first fault, whatever call is asked."""

    def check_fault_is_the_first(self, text, kind, place):
        """The lines before the fault's have none, and what stands behind its line counts for nothing."""
        start = len(text[:place]) - len(bytes(text[:place]).split(b"\n")[-1])
        if start > 0:
            self.assertIn(judge(text[:start]), ([0], [-6, 8, start]))
        if kind not in (1, 8):
            end = text.index(10, place) + 1
            for rest in ([], [10], [0, 10], list(b"kick"), bytes_of(text_of(FULL))):
                self.assertEqual(judge(text[:end] + rest), [-6, kind, place])

    def test_changed_texts(self):
        kinds = set()
        for text in changed_texts():
            judged = judge(text)
            if judged == [0]:
                kinds.add(0)
                self.check_right(bytes(text).decode("ascii"))
            else:
                refusal, kind, place = judged
                self.assertEqual(refusal, -6)
                self.assertIn(kind, range(1, 9))
                self.assertIn(place, range(len(text) + 1))
                self.assertEqual(place == len(text), kind in (1, 8))
                kinds.add(kind)
                self.check_fault_at(kind, place, text)
                self.check_fault_is_the_first(text, kind, place)
        # Else the changes would show nothing of some kind.
        self.assertEqual(kinds, set(range(9)))

    def test_one_of_each_kind(self):
        for kind, text in enumerate(FAULTY, 1):
            judged = judge(bytes_of(text))
            self.assertEqual(judged[:2], [-6, kind])
            self.check_fault_at(kind, judged[2], bytes_of(text))

    def test_two_tables_differ_in_an_answer(self):
        # A2 the other way round: what all calls answer alike is one text.
        texts = sorted(set(right_texts()))
        answers = {str([call(bytes_of(text)) for call in CALLS]) for text in texts}
        self.assertEqual(len(answers), len(texts))


class SamePlaces(TableCase):
    """A3: places and find say what switches, lamps, coils, devices and kicks say of the same text."""

    def check_sort(self, sort, what, text, lines):
        told = names_and_places(lines)
        self.assertEqual(places(what, text), [0] + [place for name, place in told])
        for name, place in told:
            self.assertEqual(find(sort, text, bytes_of(name)), [0, place])

    def test_switches(self):
        for text in [bytes_of(text) for text in right_texts()]:
            lines = switches_again(text).values()
            self.check_sort(0, 0, text, lines)
            turned = names_and_places([line for line in lines if line.endswith(" turned")])
            self.assertEqual(places(1, text), [0] + [place for name, place in turned])

    def test_lamps(self):
        for text in [bytes_of(text) for text in right_texts()]:
            self.check_sort(1, 2, text, lamps_again(text))

    def test_coils(self):
        for text in [bytes_of(text) for text in right_texts()]:
            lines = coils_again(text).values()
            self.check_sort(2, 3, text, lines)
            holding = names_and_places([line for line in lines if line.split(" ")[-2] == "hold"])
            self.assertEqual(places(6, text), [0] + [place for name, place in holding])

    def test_devices(self):
        for text in [bytes_of(text) for text in right_texts()]:
            told = Told(devices(text))
            held = []
            for number in range(told.take()):
                coil, drain = told.take_many(2)
                self.assertIn(coil, places(3, text)[1:])
                held += told.take_many(told.take())
                self.assertEqual(find(3, text, bytes_of(told.take_name())), [0, number])
            self.assertEqual(places(4, text), [0] + sorted(held))

    def test_kicks(self):
        for text in [bytes_of(text) for text in right_texts()]:
            told = kicks(text)[2:]
            self.assertEqual(places(5, text), [0] + told[0::4])
            for switch, coil, till in zip(told[0::4], told[1::4], told[3::4]):
                self.assertIn(switch, places(0, text)[1:])
                self.assertIn(coil, places(3, text)[1:])
                self.assertIn(till, places(0, text)[1:] + [64])

    def test_places_rise(self):
        for text in [bytes_of(text) for text in right_texts()]:
            for what in range(7):
                told = places(what, text)[1:]
                self.assertEqual(told, sorted(set(told)))

    def test_faulty_texts_have_no_places(self):
        for text in FAULTY:
            for call in TELLING:
                self.assertEqual(call(bytes_of(text)), [-6], call.__name__)


if __name__ == "__main__":
    unittest.main()
