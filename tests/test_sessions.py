"""Point 14: sessions as texts."""

import copy
import random
import unittest

from model import MALFORMED, MOST_TIMES, random_operations, read, replayed, written
from support import LARGEST_MARK, NO_LISTS, MarkringTest, invalid_rings, random_ring, random_rings

from markring.errors import InvalidMarks, InvalidOperation, InvalidText
from markring.textio import format_session, parse_session
from markring.workbench import replay

CHARACTERS = "  \n\n--00123456789abemprstuxMU.,+_~!\"'"
WORDS = [
    "", "marks", "reflect", "pin", "shift", "turn", "repeat", "undo", "redo", "save", "Undo", "0",
    "-0", "00", "01", "-01", "+1", "1", "-1", "2", "7", "8", "--1", "1-", "-", "1.0", "1e3", "1_0",
    "0x1", "1000000", "1000001", "-1000000", "-1000001", "1000000000000000000",
    "1000000000000000001", "9999999999999999999", "-9999999999999999999", "10000000000000000000",
    "x", "~",
]
LINES = [
    "", " ", "marks", "marks 0 1 3", "marks 0 1", "undo", "redo", "undo ", " undo", "undo 1",
    "redo 0", "reflect", "reflect 0", "reflect 99", "reflect -1", "reflect 0 1", "pin", "pin ",
    "pin 0", "pin 1 0", "pin 0 0", "pin 0  1", "shift", "shift 5", "shift -1000001", "shift 1 2",
    "turn", "turn 1", "turn 8", "turn 1 1", "repeat", "repeat 5", "repeat -1", "repeat 2 0 1",
    "repeat 2 99", "repeat 1000000000000000000 0 1 2", "repeat 1000000000000000001",
    "repeat 2 (0)", "repeat x", "jump", "jump 1", "# undo", "UNDO", "undo\t", "undo;redo",
]


def random_sessions(seed, number, most=10):
    """Return rings with operations that succeed."""
    source = random.Random(seed)
    return [(marks, random_operations(source, marks, most)) for marks in random_rings(seed + 1, number)]


class SessionTest(MarkringTest):
    def assert_parsed(self, text):
        """Compare with the reference and return the name of the error, if any."""
        values, error = read(text)
        if error is not None:
            self.assert_raises(*error, parse_session, text)
            return error[0].__name__
        self.assert_same(parse_session(text), values)
        self.assert_same(format_session(*values), text)
        return None


class FormatTest(SessionTest):
    def test_example(self):
        text = format_session((0, 1, 3), [("repeat", [0, 1, 2], 2), ("pin", ())])
        self.assert_same(text, "marks 0 1 3\nrepeat 2 0 1 2\npin")

    def test_written_out(self):
        self.assert_same(format_session((0, 1, 3), []), "marks 0 1 3")
        self.assert_same(format_session((-1000000, 0, 1000000), []), "marks -1000000 0 1000000")
        operations = [("reflect", 2), ("pin", (0, 3)), ("shift", -5), ("turn", 1),
                      ("repeat", [0, 1, 0], 9), ("undo",), ("redo",), ("undo",), ("shift", 0),
                      ("repeat", [], 0), ("repeat", [1], MOST_TIMES), ("pin", (2,)), ("redo",)]
        lines = ["marks 5 -7 0 2", "reflect 2", "pin 0 3", "shift -5", "turn 1", "repeat 9 0 1 0",
                 "undo", "redo", "undo", "shift 0", "repeat 0", "repeat 1000000000000000000 1",
                 "pin 2", "redo"]
        # The turn moves the pinned seats 0 and 3 to 3 and 2.
        self.assert_same(format_session((5, -7, 0, 2), operations), "\n".join(lines))
        self.assert_same(parse_session("\n".join(lines)), ((5, -7, 0, 2), operations))

    def test_random_sessions(self):
        for marks, operations in random_sessions(181, 400):
            kept = copy.deepcopy(operations)
            text = format_session(marks, operations)
            self.assert_same(text, written(marks, operations))
            self.assert_same(parse_session(text), (marks, operations))
            self.assert_same(operations, kept)
            self.assert_same(format_session(marks, operations), text)
            self.assertEqual(self.assert_parsed(text), None)

    def test_errors_of_replay(self):
        source = random.Random(183)
        kinds = {}
        for marks in random_rings(184, 400):
            operations = random_operations(source, marks, 8, 0.2)
            if source.random() < 0.4:
                operations.insert(source.randint(0, len(operations)), source.choice(MALFORMED))
            error = replayed(marks, operations)[1]
            if error is None:
                self.assert_same(format_session(marks, operations), written(marks, operations))
            else:
                self.assert_raises(*error, format_session, marks, operations)
                self.assert_raises(*error, replay, marks, operations)
            kinds[error is None] = kinds.get(error is None, 0) + 1
        self.assertGreater(min(kinds.values()), 80)

    def test_invalid_marks_first(self):
        for operations in ([], [("shift", 1)], [("shift",)], None, ()):
            for marks, position in invalid_rings():
                self.assert_raises(InvalidMarks, {"position": position}, format_session, marks, operations)

    def test_no_list(self):
        for value in NO_LISTS + [(("undo",),), "undo", ("undo",)]:
            self.assert_raises(InvalidOperation, {"position": 0}, format_session, (0, 1, 3), value)

    def test_malformed_operations(self):
        for bad in MALFORMED:
            for position in range(3):
                operations = [("shift", 1), ("undo",)]
                operations.insert(position, bad)
                expected = {"position": position}
                self.assert_raises(InvalidOperation, expected, format_session, (0, 1, 3), operations)


class ParseTest(SessionTest):
    def assert_text(self, text, line):
        self.assert_raises(InvalidText, {"line": line}, parse_session, text)
        self.assertEqual(read(text), (None, (InvalidText, {"line": line})))

    def test_examples(self):
        self.assert_same(parse_session("marks 0 1 3\nshift -5"), ((0, 1, 3), [("shift", -5)]))
        self.assert_raises(InvalidText, {"line": 1}, parse_session, "marks 0 1 3\nshift 05")

    def test_written_out(self):
        self.assert_same(parse_session("marks 0 1 3"), ((0, 1, 3), []))
        self.assert_same(parse_session("marks 0 -1 3\npin"), ((0, -1, 3), [("pin", ())]))
        self.assert_same(parse_session("marks 0 1 3\nrepeat 7"), ((0, 1, 3), [("repeat", [], 7)]))
        self.assert_same(parse_session("marks 0 1 3\nrepeat 7 1"), ((0, 1, 3), [("repeat", [1], 7)]))
        expected = ((0, 1, 3), [("undo",), ("redo",), ("turn", 2)])
        self.assert_same(parse_session("marks 0 1 3\nundo\nredo\nturn 2"), expected)

    def test_first_lines(self):
        for text in ("", " ", "\n", "undo", "pin", "mark 0 1 3", "Marks 0 1 3", " marks 0 1 3",
                     "marks  0 1 3", "marks 0 1 3 ", "marks 0  1 3", "marks 0 1 +3", "marks 0 1 03",
                     "marks 0 1 -0", "marks 0 1 x", "marks,0,1,3", "marks0 1 3", "0 1 3",
                     "marks 0 1 3.0", "marks 0 1 3,", "marks 0 1 10000000000000000000", "reflect 1",
                     "marks 0 1 --3", "marks 0 1 3-", "marks 0 1 -", "marks 0 1 (3)"):
            self.assert_text(text, 0)
            self.assert_text(text + "\nundo", 0)
            self.assert_text(text + "\njump", 0)

    def test_other_lines(self):
        for line in ("", " ", "jump", "marks", "marks 0 1 3", "undo ", " undo", "undo 0", "redo 1",
                     "Undo", "undo redo", "reflect", "reflect ", "reflect 1 2", "reflect 01",
                     "reflect  1", "reflect x", "reflect 1x", "reflect +1", "pin 0  1", "pin ",
                     "pin (0,)", "pin 0,1", "pin -0", "shift", "shift -", "shift --5", "shift -05",
                     "shift 5 5", "shift 1_0", "shift 1e5", "turn", "turn 1 2", "turn -00", "repeat",
                     "repeat ", "repeat x", "repeat 1 x", "repeat 1  0", "repeat [0] 1", "save a",
                     "restore a", "batch", "shift 10000000000000000000", "shift -10000000000000000000",
                     "repeat 01000000000000000000", "reflect\t1", "undo\r", "undo\x0b", "undo\u2028",
                     "shift \u0665", "shift \u00b2", "shift 5\u00a0"):
            self.assert_text("marks 0 1 3\n" + line, 1)
            self.assert_text("marks 0 1 3\n" + line + "\nundo", 1)
            self.assert_text("marks 0 1 3\nundo\n" + line, 2)
            self.assert_text("marks 0 1 3\nundo\n" + line + "\n", 2)
            # InvalidText comes first, even if the lines before it would fail.
            self.assert_text("marks 0 1\nshift 9000000\n" + line, 2)

    def test_line_feeds_at_the_end(self):
        self.assert_text("marks 0 1 3\n", 1)
        self.assert_text("marks 0 1 3\nundo\n", 2)
        self.assert_text("marks 0 1 3\n\nundo", 1)
        self.assert_text("\nmarks 0 1 3", 0)

    def test_numbers(self):
        for number in (0, 1, -1, 9, 10, -10, 1000000, -1000000):
            text = f"marks 0 1 3\nshift {number}"
            self.assert_same(parse_session(text), ((0, 1, 3), [("shift", number)]))
        # Up to nineteen digits are a number, which is too large here.
        for number in (1000001, 10 ** 18, 10 ** 19 - 1, -(10 ** 19) + 1):
            for line in (f"shift {number}", f"reflect {number}", f"pin 0 {number}", f"turn {number}"):
                text = f"marks 0 1 3\nundo\n{line}"
                self.assert_raises(InvalidOperation, {"position": 1}, parse_session, text)
            self.assert_raises(InvalidMarks, {"position": 1}, parse_session, f"marks 0 {number} 3")
        for number in (10 ** 19, -(10 ** 19), 10 ** 30):
            self.assert_text(f"marks 0 1 3\nshift {number}", 1)
            self.assert_text(f"marks 0 {number} 3", 0)

    def test_invalid_marks(self):
        for text, position in (
            ("marks", 0), ("marks 4", 1), ("marks 4 5", 2), ("marks 0 1000001 2", 1),
            ("marks 0 1 2 3 4 5 6 7 8", 8), ("marks -1000001", 0), ("marks 0 0 0 0 0 0 0 0 1000001", 8),
        ):
            self.assert_raises(InvalidMarks, {"position": position}, parse_session, text)
            text += "\nshift 9000000"
            self.assert_raises(InvalidMarks, {"position": position}, parse_session, text)

    def test_invalid_operations(self):
        for line in ("reflect 3", "reflect -1", "reflect 1", "pin 1 0", "pin 0 0", "pin 3", "pin -1",
                     "shift 1000001", "turn 3", "turn -1", "repeat 2 0 1", "repeat 2 3", "repeat -1",
                     "repeat 1000000000000000001", "repeat -1 0"):
            text = "marks 0 1 3\npin 1\n" + line + "\nshift 9000000"
            self.assert_raises(InvalidOperation, {"position": 1}, parse_session, text)

    def test_no_text(self):
        for value in NO_LISTS + [[], ["marks 0 1 3"], ("marks 0 1 3",), [("undo",)]]:
            if type(value) is not str:
                self.assert_text(value, 0)

    def test_lists_that_the_caller_modifies(self):
        for marks, operations in random_sessions(185, 60):
            text = written(marks, operations)
            for _ in range(2):
                found = parse_session(text)
                self.assert_same(found, (marks, operations))
                for operation in found[1]:
                    if operation[0] == "repeat":
                        operation[1].append("x")
                found[1].append("x")


class ChangesTest(SessionTest):
    def assert_kinds(self, kinds, fewest):
        expected = {None, "InvalidText", "InvalidMarks", "InvalidOperation"}
        self.assertLessEqual(set(kinds), expected)
        for kind in fewest:
            self.assertGreater(kinds.get(kind, 0), fewest[kind], kinds)

    def changed_texts(self, seed, number, change):
        """Parse texts after one to three changes and count the errors."""
        source = random.Random(seed)
        kinds = {}
        for marks, operations in random_sessions(seed + 1, number):
            text = written(marks, operations)
            for _ in range(source.choice([1, 1, 2, 3])):
                text = change(source, text)
            kind = self.assert_parsed(text)
            kinds[kind] = kinds.get(kind, 0) + 1
        return kinds

    def test_characters(self):
        def change(source, text):
            place = source.randint(0, len(text))
            letter = source.choice(CHARACTERS)
            return text[:place] + source.choice([letter, "", letter]) + text[place + source.randint(0, 1):]

        kinds = self.changed_texts(187, 2500, change)
        self.assert_kinds(kinds, {None: 200, "InvalidText": 1000, "InvalidMarks": 5, "InvalidOperation": 30})

    def test_words(self):
        def change(source, text):
            lines = [line.split(" ") for line in text.split("\n")]
            words = source.choice(lines)
            place = source.randint(0, len(words))
            way = source.randrange(3)
            words[place:place + (way > 0)] = [source.choice(WORDS)] if way < 2 else []
            return "\n".join(" ".join(words) for words in lines)

        kinds = self.changed_texts(189, 2500, change)
        self.assert_kinds(kinds, {None: 50, "InvalidText": 800, "InvalidMarks": 30, "InvalidOperation": 50})

    def test_lines(self):
        def change(source, text):
            lines = text.split("\n")
            place = source.randint(0, len(lines))
            way = source.randrange(4)
            if way == 3:
                lines.insert(place, source.choice(lines))
            else:
                lines[place:place + (way > 0)] = [source.choice(LINES)] if way < 2 else []
            return "\n".join(lines)

        kinds = self.changed_texts(191, 2500, change)
        self.assert_kinds(kinds, {None: 200, "InvalidText": 800, "InvalidOperation": 100})

    def test_marks_at_the_limits(self):
        source = random.Random(193)
        for _ in range(300):
            marks = list(random_ring(source))
            marks[source.randrange(len(marks))] = source.choice(
                [LARGEST_MARK, -LARGEST_MARK, LARGEST_MARK + 1, -LARGEST_MARK - 1])
            self.assert_parsed(written(marks, []))


if __name__ == "__main__":
    unittest.main()
