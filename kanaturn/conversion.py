"""The calls on one object, and the list in which they're asked and answered."""

from kanaturn.characters import is_character
from kanaturn.joins import no_joins, read_joins
from kanaturn.lexicon import read_lexicon
from kanaturn.lines import Fault
from kanaturn.offers import NO_SIZE, next_size, offers_there
from kanaturn.settled import with_choice, with_width
from kanaturn.turn import Turn, is_chosen, shown_pieces, take_up_to, where_one_is
from kanaturn.ways import count_ways, text_of_all

BEGIN = 1
WORDS = 2
JOINS = 3
START = 4
MORE = 5
SHOWN = 6
TEXT = 7
COULD = 8
MOVE = 9
WIDTH = 10
CHOOSE = 11
TAKE = 12

# In the order in which they're looked for.
OUT_OF_BOUNDS = -1
NO_TURN = -4
NO_CHARACTER = -3
WRONG_TEXT = -2
TOO_MANY_WAYS = -6
NONE_THERE = -5

MOST_BYTES = 65536
MOST_SOUNDS = 24
MOST_WAYS = 1024


def may_be_told(sounds):
    return 1 <= len(sounds) <= MOST_SOUNDS


def are_characters(sounds):
    return all([is_character(sound) for sound in sounds])


def may_be_read(words, reading):
    return len(reading) <= MOST_SOUNDS and count_ways(words, reading) <= MOST_WAYS


def with_count(characters):
    return [len(characters)] + characters


class Conversion:
    """One object: a lexicon, joins, perhaps a turn under way. Each call gives back its answer."""

    def __init__(self):
        self.begin()

    def begin(self):
        self.words = []
        self.joins = no_joins()
        self.turn = None
        return [0]

    def tell_words(self, text):
        if len(text) > MOST_BYTES:
            return [OUT_OF_BOUNDS]
        try:
            words = read_lexicon(text)
        except Fault as e:
            return [WRONG_TEXT, e.line, e.kind]
        self.words = words
        self.turn = None
        return [len(words)]

    def tell_joins(self, text):
        if len(text) > MOST_BYTES:
            return [OUT_OF_BOUNDS]
        try:
            joins = read_joins(text)
        except Fault as e:
            return [WRONG_TEXT, e.line, e.kind]
        self.joins = joins
        self.turn = None
        return [joins.how_many_cost()]

    def start(self, sounds):
        if not may_be_told(sounds):
            return [OUT_OF_BOUNDS]
        if not are_characters(sounds):
            return [NO_CHARACTER]
        reading = tuple(sounds)
        if not may_be_read(self.words, reading):
            return [TOO_MANY_WAYS]
        self.turn = Turn(reading)
        return [0]

    def more(self, sounds):
        if not may_be_told(sounds):
            return [OUT_OF_BOUNDS]
        if self.turn is None:
            return [NO_TURN]
        if not are_characters(sounds):
            return [NO_CHARACTER]
        reading = self.turn.reading + tuple(sounds)
        if not may_be_read(self.words, reading):
            return [TOO_MANY_WAYS]
        self.turn.reading = reading
        return [0]

    def pieces(self):
        return shown_pieces(self.words, self.joins, self.turn)

    def here(self):
        """The piece where one is."""
        pieces = self.pieces()
        return pieces[where_one_is(self.turn, pieces)]

    def offers(self):
        return offers_there(self.words, self.joins, self.turn, self.here())

    def shown(self):
        if self.turn is None:
            return [NO_TURN]
        pieces = self.pieces()
        answer = [len(pieces), where_one_is(self.turn, pieces)]
        for piece in pieces:
            chosen = 1 if is_chosen(self.turn, piece) else 0
            answer.extend([piece.place, piece.size, piece.number, chosen])
        return answer

    def tell_text(self):
        if self.turn is None:
            return [NO_TURN]
        return with_count(text_of_all(self.words, self.turn.reading, self.pieces()))

    def could(self, number):
        if self.turn is None:
            return [NO_TURN]
        offers = self.offers()
        if number >= len(offers):
            return [NONE_THERE]
        offer = offers[number]
        return [len(offer.text), offer.cost] + list(offer.text)

    def move(self, back):
        if back > 1:
            return [OUT_OF_BOUNDS]
        if self.turn is None:
            return [NO_TURN]
        pieces = self.pieces()
        number = where_one_is(self.turn, pieces) + (-1 if back == 1 else 1)
        if not 0 <= number < len(pieces):
            return [NONE_THERE]
        self.turn.place = pieces[number].place
        return [0]

    def width(self, narrower):
        if narrower > 1:
            return [OUT_OF_BOUNDS]
        if self.turn is None:
            return [NO_TURN]
        here = self.here()
        size = next_size(self.words, self.joins, self.turn, here, narrower)
        if size == NO_SIZE:
            return [NONE_THERE]
        self.turn.settled = with_width(self.turn.settled, here.place, size)
        self.turn.place = here.place
        return [0]

    def choose(self, number):
        if self.turn is None:
            return [NO_TURN]
        offers = self.offers()
        if number >= len(offers):
            return [NONE_THERE]
        piece = offers[number].piece
        self.turn.settled = with_choice(self.turn.settled, piece)
        self.turn.place = piece.place
        return [0]

    def take(self, count):
        if self.turn is None:
            return [NO_TURN]
        pieces = self.pieces()
        if not 1 <= count <= len(pieces):
            return [NONE_THERE]
        characters = text_of_all(self.words, self.turn.reading, pieces[:count])
        take_up_to(self.turn, pieces[count - 1])
        if not self.turn.reading:
            self.turn = None
        return with_count(characters)


def has_row(number):
    return number in (WORDS, JOINS, START, MORE)


def has_number(number):
    return number in (COULD, MOVE, WIDTH, CHOOSE, TAKE)


def answer_plain(conversion, number):
    if number == BEGIN:
        return conversion.begin()
    if number == SHOWN:
        return conversion.shown()
    if number == TEXT:
        return conversion.tell_text()
    raise ValueError(f"no call {number}")


def answer_with_number(conversion, number, told):
    if number == COULD:
        return conversion.could(told)
    if number == MOVE:
        return conversion.move(told)
    if number == WIDTH:
        return conversion.width(told)
    if number == CHOOSE:
        return conversion.choose(told)
    return conversion.take(told)


def answer_with_row(conversion, number, row):
    if number == WORDS:
        return conversion.tell_words(row)
    if number == JOINS:
        return conversion.tell_joins(row)
    if number == START:
        return conversion.start(row)
    return conversion.more(row)


def answers(calls):
    """The answers to the calls on one object, which is new: before each, how many numbers it has."""
    conversion = Conversion()
    told = []
    place = 0
    while place < len(calls):
        number = calls[place]
        place += 1
        if has_row(number):
            row_begin = place + 1
            place = row_begin + calls[place]
            answer = answer_with_row(conversion, number, calls[row_begin:place])
        elif has_number(number):
            answer = answer_with_number(conversion, number, calls[place])
            place += 1
        else:
            answer = answer_plain(conversion, number)
        told.append(len(answer))
        told.extend(answer)
    return told
