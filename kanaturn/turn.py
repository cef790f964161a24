"""A turn: a reading under way, what's settled of it, and what's shown."""

from kanaturn.settled import is_kept_by, nothing_settled, without_first
from kanaturn.ways import first_way, pieces_at


class Turn:
    def __init__(self, reading):
        self.reading = reading
        self.sort_before = 0
        self.settled = nothing_settled()
        self.place = 0


def kept_pieces(words, joins, reading, settled):
    """For each place the pieces there that keep what's settled."""
    end = len(reading)
    pieces_by_place = []
    for place in range(end):
        pieces = pieces_at(words, joins.alone, reading, place)
        pieces_by_place.append([piece for piece in pieces if is_kept_by(settled, piece, end)])
    return pieces_by_place


def shown_pieces(words, joins, turn):
    """The first way of those that keep what's settled."""
    return first_way(kept_pieces(words, joins, turn.reading, turn.settled), joins, turn.sort_before)


def where_one_is(turn, pieces):
    """The number of the piece in which the turn's place lies."""
    return len([piece for piece in pieces if piece.place <= turn.place]) - 1


def is_chosen(turn, piece):
    return piece.place in turn.settled.choices


def take_up_to(turn, piece):
    """Takes a piece and all before it off a turn, with what's settled of them."""
    sounds = piece.place + piece.size
    turn.reading = turn.reading[sounds:]
    turn.sort_before = piece.right
    turn.settled = without_first(turn.settled, sounds)
    turn.place = max(turn.place - sounds, 0)
