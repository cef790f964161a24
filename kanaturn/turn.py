"""A turn: a reading under way, what's settled of it, and what's shown."""

from kanaturn.ways import first_way, pieces_at

A_PIECE_ENDS = 1
NONE_ENDS = 2


class Turn:
    def __init__(self, reading):
        self.reading = reading
        self.sort_before = 0
        self.cuts = {}
        self.choices = {}
        self.place = 0


def is_kept_by(turn, piece):
    """If a way with this piece keeps, as far as the piece reaches, what's settled."""
    end = piece.place + piece.size
    for place in range(piece.place + 1, end):
        if turn.cuts.get(place, 0) == A_PIECE_ENDS or place in turn.choices:
            return False
    # A cut at the reading's end counts nothing.
    if end < len(turn.reading) and turn.cuts.get(end, 0) == NONE_ENDS:
        return False
    return turn.choices.get(piece.place, piece.number) == piece.number


def shown_pieces(words, joins, turn):
    """The first way of those that keep what's settled."""
    pieces_by_place = []
    for place in range(len(turn.reading)):
        pieces = pieces_at(words, joins.alone, turn.reading, place)
        pieces_by_place.append([piece for piece in pieces if is_kept_by(turn, piece)])
    return first_way(pieces_by_place, joins, turn.sort_before)


def where_one_is(turn, pieces):
    """The number of the piece in which the turn's place lies."""
    return len([piece for piece in pieces if piece.place <= turn.place]) - 1


def is_chosen(turn, piece):
    return piece.place in turn.choices
