"""What could stand where one is: other pieces, and other sizes."""

from kanaturn.settled import left_open
from kanaturn.turn import kept_pieces
from kanaturn.ways import least_cost, pieces_at, text_of

NO_SIZE = 0


class Offer:
    """A piece that could stand there, the text it writes, and what it would cost."""

    def __init__(self, piece, text, cost):
        self.piece = piece
        self.text = text
        self.cost = cost


def each_text_once(offers):
    """Of several that write the same text the first alone."""
    by_text = {}
    for offer in offers:
        by_text.setdefault(offer.text, offer)
    return list(by_text.values())


def offers_there(words, joins, turn, here):
    """What could stand in the place of a piece that's shown, in order."""
    pieces_by_place = kept_pieces(words, joins, turn.reading, left_open(turn.settled, here))
    offers = []
    for piece in pieces_at(words, joins.alone, turn.reading, here.place):
        if piece.size == here.size:
            # With this one alone at its place, all ways have it.
            pieces_by_place[here.place] = [piece]
            cost = least_cost(pieces_by_place, joins, turn.sort_before)
            offers.append(Offer(piece, text_of(words, turn.reading, piece), cost))
    # Of one cost they stay as they stood: words by number, the sound by itself last.
    return each_text_once(sorted(offers, key=lambda offer: offer.cost))


def next_size(words, joins, turn, here, narrower):
    """The next size above that of a piece, or below it, that some piece has there; or NO_SIZE."""
    sizes = [piece.size for piece in pieces_at(words, joins.alone, turn.reading, here.place)]
    if narrower == 1:
        return max([size for size in sizes if size < here.size], default=NO_SIZE)
    return min([size for size in sizes if size > here.size], default=NO_SIZE)
