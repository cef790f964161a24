"""Words, and the text that tells a lexicon of them."""

from kanaturn.characters import decode, may_stand_in_word
from kanaturn.lines import Fault, decimal, lines_in_parts, numbers_fault
from kanaturn.lines import MOST_COST, MOST_SORT, NO_FAULT, NO_SUCH_LINE, TOLD_BEFORE, TOO_MANY_LINES, TOO_MUCH

MOST_WORDS = 128
MOST_CHARACTERS = 32
PARTS = 5


class Word:
    def __init__(self, reading, text, left, right, cost):
        self.reading = reading
        self.text = text
        self.left = left
        self.right = right
        self.cost = cost


def row_fault(row):
    """What's wrong with a reading or a text; None stands for bytes that are no UTF-8."""
    if not row or not all([may_stand_in_word(character) for character in row]):
        return NO_SUCH_LINE
    if len(row) > MOST_CHARACTERS:
        return TOO_MUCH
    return NO_FAULT


def word_fault(reading, text, numbers):
    """The least kind of what's wrong with a word, looked at by itself."""
    most = (MOST_SORT, MOST_SORT, MOST_COST)
    faults = [row_fault(reading), row_fault(text), numbers_fault(numbers, most)]
    if NO_SUCH_LINE in faults:
        return NO_SUCH_LINE
    return max(faults)


def read_word(line, parts, told):
    """The word of a line; told has the readings and texts of the lines before."""
    if len(parts) != PARTS:
        raise Fault(line, NO_SUCH_LINE)
    reading = decode(parts[0])
    text = decode(parts[1])
    numbers = [decimal(part) for part in parts[2:]]
    kind = word_fault(reading, text, numbers)
    if kind != NO_FAULT:
        raise Fault(line, kind)
    if (reading, text) in told:
        raise Fault(line, TOLD_BEFORE)
    if line >= MOST_WORDS:
        raise Fault(line, TOO_MANY_LINES)
    return Word(reading, text, numbers[0], numbers[1], numbers[2])


def read_lexicon(text):
    """The words that a lexicon's text tells, in their order; a Fault is raised if it's wrong."""
    words = []
    told = {}
    for line, parts in enumerate(lines_in_parts(text)):
        word = read_word(line, parts, told)
        told[(word.reading, word.text)] = True
        words.append(word)
    return sorted(words, key=lambda word: (word.reading, word.cost, word.text))
