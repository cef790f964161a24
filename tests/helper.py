"""Asks kanaturn.conversion.answers: calls are made by name, answers come back one list a call.

Behind that stands the slow check: it goes through all ways of a reading. A word is
(reading, text, left, right, cost) there, a table a dict of (right, left) to cost.
"""

from kanaturn.conversion import answers

BEGIN = [1]
SHOWN = [6]


def numbers_of(row):
    """A row of numbers as it is; of a str its characters; of bytes they."""
    if isinstance(row, str):
        return [ord(sign) for sign in row]
    return list(row)


def bytes_of(text):
    return list(text.encode("utf-8")) if isinstance(text, str) else list(text)


def with_row(number, row):
    return [number, len(row)] + row


def words(text):
    return with_row(2, bytes_of(text))


def joins(text):
    return with_row(3, bytes_of(text))


def start(reading):
    return with_row(4, numbers_of(reading))


def more(reading):
    return with_row(5, numbers_of(reading))


def split_answers(told, how_many):
    """The answers that stand in a list, parted by their counts; it must hold just so many."""
    parted = []
    place = 0
    while place < len(told):
        count = told[place]
        answer = told[place + 1:place + 1 + count]
        if len(answer) != count or count < 1:
            raise AssertionError(f"a wrong count at {place}: {told}")
        parted.append(answer)
        place += 1 + count
    if len(parted) != how_many:
        raise AssertionError(f"{len(parted)} answers to {how_many} calls: {told}")
    return parted


def ask(*calls):
    """The answer to each of the calls on one new object."""
    told = answers([number for call in calls for number in call])
    if type(told) is not list or any(type(number) is not int for number in told):
        raise AssertionError(f"not a list of whole numbers: {told}")
    return split_answers(told, len(calls))


def last(*calls):
    """The answer to the last one of the calls."""
    return ask(*calls)[-1]


def shown_words(*calls):
    """The words' numbers of what's shown behind the calls (-1: by itself)."""
    return last(*calls, SHOWN)[4::4]


def one_each(reading):
    """What shown answers if each sound stands by itself."""
    answer = [len(reading), 0]
    for place in range(len(reading)):
        answer += [place, 1, -1, 0]
    return answer


def lexicon_text(lexicon):
    return "".join([f"{reading} {text} {left} {right} {cost}\n" for reading, text, left, right, cost in lexicon])


def joins_text(alone, table):
    return f"{alone}\n" + "".join([f"{right} {left} {cost}\n" for (right, left), cost in table.items()])


def all_ways(lexicon, reading, place=0):
    """Every way, as a row of (sounds, number of the word or -1)."""
    if place == len(reading):
        return [[]]
    ways = []
    steps = [(len(word[0]), number) for number, word in enumerate(lexicon) if reading.startswith(word[0], place)]
    for size, number in steps + [(1, -1)]:
        ways += [[(size, number)] + rest for rest in all_ways(lexicon, reading, place + size)]
    return ways


def way_cost(lexicon, alone, table, way):
    sort, cost = 0, 0
    for size, number in way:
        left, right, own = lexicon[number][2:] if number >= 0 else (0, 0, alone)
        cost += table.get((sort, left), 0) + own
        sort = right
    return cost + table.get((sort, 0), 0)


def way_rank(lexicon, alone, table, way):
    order = [(-size, number == -1, number) for size, number in way]
    return (way_cost(lexicon, alone, table, way), order)


def slow_shown(lexicon, alone, table, reading):
    numbered = sorted(lexicon, key=lambda word: (word[0], word[4], word[1]))
    ways = all_ways(numbered, reading)
    if len(ways) > 1024:
        return None
    first = min(ways, key=lambda way: way_rank(numbered, alone, table, way))
    answer = [len(first), 0]
    place = 0
    for size, number in first:
        answer += [place, size, number, 0]
        place += size
    return answer
