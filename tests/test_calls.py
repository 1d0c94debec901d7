"""What holds for the calls as such: sizes, the form of answers, and that nothing is changed, kept or printed."""

import ast
import contextlib
import io
import pathlib
import unittest

import flipboards
from flipboards.boards import coils, devices, judge, kicks, lamps, switches, table
from texts import CALLS, FULL, SMALLEST, TELLING, TableCase, Untouched, bytes_of, largest, swapped, text_of

MOST = 16384


def samples():
    texts = [text_of(SMALLEST), text_of(FULL), largest()]
    texts += ["", "\n", "table x balls 1\n", "table", text_of(FULL) + "\t\n"]
    texts += [swapped("kick right right for 30", "kick right right for 31"), "x" * MOST, "x" * (MOST + 1)]
    return [bytes_of(text) for text in texts]


class Sizes(TableCase):
    def check_too_long(self, text):
        for call in CALLS:
            self.assertEqual(call(text), [-2], call.__name__)

    def test_just_not_too_long(self):
        # No right text is as long as that, so it is one behind whose lines a fault stands.
        right = text_of(FULL)
        self.check_fault(1, right + "x" * (MOST - len(right)) + "^")
        self.check_fault(3, right + "^" + "x" * (MOST - len(right) - 1) + "\n")
        self.check_fault_at(1, MOST, [0] * MOST)
        self.check_fault_at(2, 0, [0] * (MOST - 1) + [10])
        self.check_fault_at(3, 0, [10] * MOST)
        self.check_fault_at(1, MOST, [255] * (MOST - 1) + [32])

    def test_too_long(self):
        right = text_of(FULL)
        self.check_too_long(bytes_of(right + "x" * (MOST + 1 - len(right))))
        self.check_too_long(bytes_of(right + "x" * (MOST - len(right)) + "\n"))
        self.check_too_long([0] * (MOST + 1))
        self.check_too_long([10] * (MOST + 1))
        self.check_too_long([255] * 20000)

    def test_long_words_and_lines_are_gone_through(self):
        blanks = "a " * 8000
        self.check_fault(3, "^" + blanks + "a\n")
        self.check_fault(2, blanks + "^ a\n")
        self.check_fault(4, "table ^" + "a" * 16000 + "\n")
        self.check_fault(4, "table a balls ^" + "1" * 16000 + "\n")
        self.check_fault(3, "table a balls 1 ^" + blanks + "a\n")


class Answers(TableCase):
    def test_judge_alone_tells_kind_and_place(self):
        text = bytes_of("table x balls 9\n")
        self.assertEqual(judge(text), [-6, 4, 14])
        for call in TELLING:
            self.assertEqual(call(text), [-6], call.__name__)

    def test_name_to_the_end_without_its_count(self):
        self.assertEqual(table(bytes_of(text_of(["table abcdefghij_9 balls 1"] + SMALLEST[1:]))),
                         [0, 1] + list(b"abcdefghij_9"))

    def test_whole_numbers_alone(self):
        for text in samples():
            for call in CALLS:
                answer = call(text)
                self.assertIs(type(answer), list, call.__name__)
                self.assertEqual({type(number) for number in answer}, {int}, call.__name__)

    def test_argument_by_name(self):
        self.assertEqual(judge(text=bytes_of(text_of(SMALLEST))), [0])
        self.assertEqual(table(text=bytes_of(text_of(SMALLEST))), [0, 1, 97])
        self.assertEqual(switches(text=bytes_of(text_of(SMALLEST))), [0, 1, 0, 1, 1, 0, 1, 97])
        self.assertEqual(lamps(text=bytes_of(text_of(SMALLEST))), [0, 0])
        self.assertEqual(coils(text=bytes_of(text_of(SMALLEST))), [0, 1, 0, 1, 1, 0, 1, 97])
        self.assertEqual(devices(text=bytes_of(text_of(SMALLEST))), [0, 1, 0, 1, 1, 0, 1, 97])
        self.assertEqual(kicks(text=bytes_of(text_of(SMALLEST))), [0, 0])


class NothingKept(TableCase):
    def test_what_is_handed_in_stays_as_it_was(self):
        for text in samples():
            handed = list(text)
            for call in CALLS:
                call(handed)
                self.assertEqual(handed, text, call.__name__)

    def test_what_is_handed_in_is_not_changed_for_a_while(self):
        for text in samples():
            for call in CALLS:
                self.assertEqual(call(Untouched(text)), call(text), call.__name__)

    def test_same_call_same_answer(self):
        first = [[call(text) for call in CALLS] for text in samples()]
        for again in range(2):
            self.assertEqual([[call(text) for call in CALLS] for text in samples()], first)
        back = [[call(text) for call in reversed(CALLS)][::-1] for text in reversed(samples())]
        self.assertEqual(back[::-1], first)

    def test_answer_is_the_callers_own(self):
        for text in samples():
            for call in CALLS:
                answer = call(text)
                kept = list(answer)
                answer.append(9)
                self.assertEqual(call(text), kept, call.__name__)

    def test_nothing_is_printed(self):
        with contextlib.redirect_stdout(io.StringIO()) as out, contextlib.redirect_stderr(io.StringIO()) as err:
            for text in samples():
                for call in CALLS:
                    call(text)
        self.assertEqual(out.getvalue() + err.getvalue(), "")

    def test_nothing_from_outside_is_imported(self):
        for path in pathlib.Path(flipboards.__file__).parent.glob("*.py"):
            for node in ast.walk(ast.parse(path.read_text())):
                self.assertNotIsInstance(node, ast.Import)
                if isinstance(node, ast.ImportFrom):
                    self.assertTrue(node.module.startswith("flipboards."), path)


if __name__ == "__main__":
    unittest.main()
