"""The calls on one object, and the list in which they're asked and answered."""

from kanaturn.characters import is_character
from kanaturn.joins import no_joins, read_joins
from kanaturn.lexicon import read_lexicon
from kanaturn.lines import Fault
from kanaturn.turn import Turn, is_chosen, shown_pieces, where_one_is
from kanaturn.ways import count_ways

BEGIN = 1
WORDS = 2
JOINS = 3
START = 4
MORE = 5
SHOWN = 6

# In the order in which they're looked for.
OUT_OF_BOUNDS = -1
NO_TURN = -4
NO_CHARACTER = -3
WRONG_TEXT = -2
TOO_MANY_WAYS = -6

MOST_BYTES = 65536
MOST_SOUNDS = 24
MOST_WAYS = 1024


def may_be_told(sounds):
    return 1 <= len(sounds) <= MOST_SOUNDS


def are_characters(sounds):
    return all([is_character(sound) for sound in sounds])


def may_be_read(words, reading):
    return len(reading) <= MOST_SOUNDS and count_ways(words, reading) <= MOST_WAYS


class Conversion:
    """One object: a lexicon, joins, perhaps a turn under way. Each call gives back its answer."""

    def __init__(self):
        self.begin()

    def begin(self):
        self.words = []
        self.joins = no_joins()
        self.turn = None
        return [0]

    def tell_words(self, text):
        if len(text) > MOST_BYTES:
            return [OUT_OF_BOUNDS]
        try:
            words = read_lexicon(text)
        except Fault as e:
            return [WRONG_TEXT, e.line, e.kind]
        self.words = words
        self.turn = None
        return [len(words)]

    def tell_joins(self, text):
        if len(text) > MOST_BYTES:
            return [OUT_OF_BOUNDS]
        try:
            joins = read_joins(text)
        except Fault as e:
            return [WRONG_TEXT, e.line, e.kind]
        self.joins = joins
        self.turn = None
        return [joins.how_many_cost()]

    def start(self, sounds):
        if not may_be_told(sounds):
            return [OUT_OF_BOUNDS]
        if not are_characters(sounds):
            return [NO_CHARACTER]
        reading = tuple(sounds)
        if not may_be_read(self.words, reading):
            return [TOO_MANY_WAYS]
        self.turn = Turn(reading)
        return [0]

    def more(self, sounds):
        if not may_be_told(sounds):
            return [OUT_OF_BOUNDS]
        if self.turn is None:
            return [NO_TURN]
        if not are_characters(sounds):
            return [NO_CHARACTER]
        reading = self.turn.reading + tuple(sounds)
        if not may_be_read(self.words, reading):
            return [TOO_MANY_WAYS]
        self.turn.reading = reading
        return [0]

    def shown(self):
        if self.turn is None:
            return [NO_TURN]
        pieces = shown_pieces(self.words, self.joins, self.turn)
        answer = [len(pieces), where_one_is(self.turn, pieces)]
        for piece in pieces:
            chosen = 1 if is_chosen(self.turn, piece) else 0
            answer.extend([piece.place, piece.size, piece.number, chosen])
        return answer


def has_row(number):
    return number in (WORDS, JOINS, START, MORE)


def answer_plain(conversion, number):
    if number == BEGIN:
        return conversion.begin()
    if number == SHOWN:
        return conversion.shown()
    raise NotImplementedError(f"no call {number}")


def answer_with_row(conversion, number, row):
    if number == WORDS:
        return conversion.tell_words(row)
    if number == JOINS:
        return conversion.tell_joins(row)
    if number == START:
        return conversion.start(row)
    return conversion.more(row)


def answers(calls):
    """The answers to the calls on one object, which is new: before each, how many numbers it has."""
    conversion = Conversion()
    told = []
    place = 0
    while place < len(calls):
        number = calls[place]
        place += 1
        if has_row(number):
            row_begin = place + 1
            place = row_begin + calls[place]
            answer = answer_with_row(conversion, number, calls[row_begin:place])
        else:
            answer = answer_plain(conversion, number)
        told.append(len(answer))
        told.extend(answer)
    return told
