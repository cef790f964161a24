"""Characters: which numbers are some, and how bytes write them in UTF-8."""

BEHIND_LAST = 0x110000
SURROGATE_FIRST = 0xD800
SURROGATE_LAST = 0xDFFF
BLANK = 0x20
DELETE = 0x7F

# By the number of bytes that write it: the least character that needs so many.
LEAST_BY_SIZE = (0, 0, 0x80, 0x800, 0x10000)
# By the number of bytes: where the first byte's mark stands, to be taken off it.
MARK_BY_SIZE = (0, 0, 0xC0, 0xE0, 0xF0)


def is_character(number):
    if SURROGATE_FIRST <= number <= SURROGATE_LAST:
        return False
    return number < BEHIND_LAST


def may_stand_in_word(character):
    return character > BLANK and character != DELETE


def size_by_first_byte(byte):
    """How many bytes a character has that begins with this one; 0 if none does."""
    if byte < 0x80:
        return 1
    if 0xC0 <= byte < 0xE0:
        return 2
    if 0xE0 <= byte < 0xF0:
        return 3
    if 0xF0 <= byte < 0xF8:
        return 4
    return 0


def join_bytes(group, size):
    """The character that a group of bytes writes, or None if it's not one of so many bytes."""
    if size == 0 or len(group) < size:
        return None
    character = group[0] - MARK_BY_SIZE[size]
    for byte in group[1:]:
        if not 0x80 <= byte < 0xC0:
            return None
        character = character * 64 + byte - 0x80
    if character < LEAST_BY_SIZE[size] or not is_character(character):
        return None
    return character


def decode(row):
    """The characters that a row of bytes writes, as a tuple, or None if it's no UTF-8."""
    characters = []
    place = 0
    while place < len(row):
        size = size_by_first_byte(row[place])
        character = join_bytes(row[place:place + size], size)
        if character is None:
            return None
        characters.append(character)
        place += size
    return tuple(characters)
