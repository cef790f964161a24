"""Ways of writing a reading: their pieces, what these write, how many ways there are, the first of them."""

BY_ITSELF = -1


class Piece:
    """A word, or a sound by itself, at a place of a reading."""

    def __init__(self, place, size, number, left, right, cost):
        self.place = place
        self.size = size
        self.number = number
        self.left = left
        self.right = right
        self.cost = cost


class Tail:
    """A piece, and the least that it and all behind it cost."""

    def __init__(self, piece, least):
        self.piece = piece
        self.least = least


def word_piece(place, number, word):
    return Piece(place, len(word.reading), number, word.left, word.right, word.cost)


def words_at(words, reading, place):
    """The numbers of the words whose reading stands at a place, the longer ones first."""
    numbers = []
    for number, word in enumerate(words):
        if reading[place:place + len(word.reading)] == word.reading:
            numbers.append(number)
    return sorted(numbers, key=lambda found: (-len(words[found].reading), found))


def pieces_at(words, alone, reading, place):
    """The pieces that stand at a place, in the order that decides between ways of one cost."""
    pieces = [word_piece(place, number, words[number]) for number in words_at(words, reading, place)]
    pieces.append(Piece(place, 1, BY_ITSELF, 0, 0, alone))
    return pieces


def text_of(words, reading, piece):
    """The characters that a piece writes."""
    if piece.number == BY_ITSELF:
        return (reading[piece.place],)
    return words[piece.number].text


def text_of_all(words, reading, pieces):
    characters = []
    for piece in pieces:
        characters.extend(text_of(words, reading, piece))
    return characters


def count_ways(words, reading):
    end = len(reading)
    counts = [0] * end + [1]
    for place in range(end - 1, -1, -1):
        lengths = [len(words[number].reading) for number in words_at(words, reading, place)]
        counts[place] = counts[place + 1] + sum([counts[place + length] for length in lengths])
    return counts[0]


def first_behind(tails, joins, sort):
    """Of the tails that may stand behind a sort the first that costs least, its join included; or None."""
    first = None
    for tail in tails:
        least = joins.between(sort, tail.piece.left) + tail.least
        # Only less counts: of one cost the piece that comes first in order stays.
        if first is None or least < first.least:
            first = Tail(tail.piece, least)
    return first


def all_tails(pieces_by_place, joins):
    """For each place the pieces there from which the end can be reached, as tails."""
    end = len(pieces_by_place)
    tails = [[] for pieces in pieces_by_place]
    # The end stands as a piece of sort 0 that costs nothing, so that it's joined like any other.
    tails.append([Tail(Piece(end, 0, BY_ITSELF, 0, 0, 0), 0)])
    for place in range(end - 1, -1, -1):
        for piece in pieces_by_place[place]:
            behind = first_behind(tails[place + piece.size], joins, piece.right)
            if behind is not None:
                tails[place].append(Tail(piece, piece.cost + behind.least))
    return tails


def least_cost(pieces_by_place, joins, sort):
    """The least that a way behind a sort costs that has only these pieces."""
    return first_behind(all_tails(pieces_by_place, joins)[0], joins, sort).least


def first_way(pieces_by_place, joins, sort):
    """The first way behind a sort that has only these pieces."""
    tails = all_tails(pieces_by_place, joins)
    way = []
    place = 0
    while place < len(pieces_by_place):
        piece = first_behind(tails[place], joins, sort).piece
        way.append(piece)
        place += piece.size
        sort = piece.right
    return way
