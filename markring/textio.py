"""Sessions as texts: the marks at the beginning and the operations, line by line."""

from markring.errors import InvalidText
from markring.workbench import replay

MOST_DIGITS = 19

# The words that exactly one number follows, and those without a number.
WORDS_OF_ONE = ("reflect", "shift", "turn")
WORDS_OF_NONE = ("undo", "redo")


def format_session(marks, operations):
    """Return the text of a session."""
    replay(marks, operations)
    lines = [format_line("marks", marks)]
    for operation in operations:
        lines.append(format_operation(operation))
    return "\n".join(lines)


def parse_session(text):
    """Return the tuple of the marks and the operations of a text."""
    if not isinstance(text, str):
        raise InvalidText(0)
    first, *others = text.split("\n")
    marks = parse_marks(first)
    if marks is None:
        raise InvalidText(0)
    operations = []
    for line, content in enumerate(others, start=1):
        operation = parse_operation(content)
        if operation is None:
            raise InvalidText(line)
        operations.append(operation)
    replay(marks, operations)
    return (marks, operations)


def format_operation(operation):
    """Return the line of an operation that can be executed."""
    word = operation[0]
    if word == "pin":
        return format_line(word, operation[1])
    if word == "repeat":
        return format_line(word, [operation[2]] + operation[1])
    return format_line(word, operation[1:])


def format_line(word, numbers):
    """Return the line of a word and numbers."""
    return " ".join([word] + [str(number) for number in numbers])


def parse_marks(line):
    """Return the marks of the first line, or None if its words are wrong."""
    word, numbers = parse_line(line)
    if word != "marks" or numbers is None:
        return None
    return tuple(numbers)


def parse_operation(line):
    """Return the operation of a line, or None if its words are wrong."""
    word, numbers = parse_line(line)
    if numbers is None:
        return None
    if word == "pin":
        return (word, tuple(numbers))
    if word == "repeat" and numbers != []:
        return (word, numbers[1:], numbers[0])
    if word in WORDS_OF_ONE and len(numbers) == 1:
        return (word, numbers[0])
    if word in WORDS_OF_NONE and numbers == []:
        return (word,)
    return None


def parse_line(line):
    """Return the word of a line and the list of its numbers, or None for the list."""
    word, *texts = line.split(" ")
    for text in texts:
        if not is_number(text):
            return (word, None)
    return (word, [int(text) for text in texts])


def is_number(text):
    """Tell whether a text is a number as sessions write it."""
    digits = text.removeprefix("-")
    if not 1 <= len(digits) <= MOST_DIGITS:
        return False
    for digit in digits:
        # Python takes the digits of other scripts as digits, too.
        if not "0" <= digit <= "9":
            return False
    # Leading zeros and -0 are what Python would write in another way.
    return str(int(text)) == text
