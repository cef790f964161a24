"""What's settled of a reading: cuts and choices. It's never changed: each step makes another one."""

A_PIECE_ENDS = 1
NONE_ENDS = 2


class Settled:
    """Cuts by their places, and by theirs the numbers of the words chosen (or by itself)."""

    def __init__(self, cuts, choices):
        self.cuts = cuts
        self.choices = choices


def nothing_settled():
    return Settled({}, {})


def is_kept_by(settled, piece, end):
    """If a way with this piece keeps, as far as the piece reaches, what's settled; end is the reading's."""
    behind = piece.place + piece.size
    for place in range(piece.place + 1, behind):
        if settled.cuts.get(place, 0) == A_PIECE_ENDS or place in settled.choices:
            return False
    # A cut at the reading's end counts nothing.
    if behind < end and settled.cuts.get(behind, 0) == NONE_ENDS:
        return False
    return settled.choices.get(piece.place, piece.number) == piece.number


def all_below(by_place, place):
    return dict([(at, told) for at, told in by_place.items() if at < place])


def all_from(by_place, place):
    return dict([(at, told) for at, told in by_place.items() if at >= place])


def moved_along(by_place, sounds):
    return dict([(at - sounds, told) for at, told in by_place.items()])


def with_cut(cuts, place):
    """The cuts, and one at a place: none is kept at place 0."""
    changed = dict(cuts)
    if place > 0:
        changed[place] = A_PIECE_ENDS
    return changed


def with_width(settled, place, size):
    """Before a place all as it was, a piece of that size there, nothing behind."""
    cuts = with_cut(all_below(settled.cuts, place), place)
    for between in range(place + 1, place + size):
        cuts[between] = NONE_ENDS
    return Settled(with_cut(cuts, place + size), all_below(settled.choices, place))


def left_open(settled, piece):
    """What's chosen within a piece's sounds left out, cuts at both its ends, all else as it was."""
    behind = piece.place + piece.size
    choices = all_below(settled.choices, piece.place)
    choices.update(all_from(settled.choices, behind))
    return Settled(with_cut(with_cut(settled.cuts, piece.place), behind), choices)


def with_choice(settled, piece):
    opened = left_open(settled, piece)
    choices = dict(opened.choices)
    choices[piece.place] = piece.number
    return Settled(opened.cuts, choices)


def without_first(settled, sounds):
    """What's settled of the rest when the first sounds are gone."""
    # The cut at the rest's beginning goes, too: it would be one at place 0.
    cuts = moved_along(all_from(settled.cuts, sounds + 1), sounds)
    return Settled(cuts, moved_along(all_from(settled.choices, sounds), sounds))
