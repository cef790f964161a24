"""Asks kanaturn.conversion.answers: calls are made by name, answers come back one list a call.

Behind that stands the slow check: it goes through all ways of a reading. A word is
(reading, text, left, right, cost) there, a table a dict of (right, left) to cost; Slow is
the whole object, in the document's own words.
"""

from kanaturn.conversion import answers

BEGIN = [1]
SHOWN = [6]
TEXT = [7]
ON = [9, 0]
BACK = [9, 1]
WIDER = [10, 0]
NARROWER = [10, 1]
GREATEST = 4294967295


def numbers_of(row):
    """A row of numbers as it is; of a str its characters; of bytes they."""
    if isinstance(row, str):
        return [ord(sign) for sign in row]
    return list(row)


def bytes_of(text):
    return list(text.encode("utf-8")) if isinstance(text, str) else list(text)


def with_row(number, row):
    return [number, len(row)] + row


def words(text):
    return with_row(2, bytes_of(text))


def joins(text):
    return with_row(3, bytes_of(text))


def start(reading):
    return with_row(4, numbers_of(reading))


def more(reading):
    return with_row(5, numbers_of(reading))


def could(number):
    return [8, number]


def move(back):
    return [9, back]


def width(narrower):
    return [10, narrower]


def choose(number):
    return [11, number]


def take(count):
    return [12, count]


def split_answers(told, how_many):
    """The answers that stand in a list, parted by their counts; it must hold just so many."""
    parted = []
    place = 0
    while place < len(told):
        count = told[place]
        answer = told[place + 1:place + 1 + count]
        if len(answer) != count or count < 1:
            raise AssertionError(f"a wrong count at {place}: {told}")
        parted.append(answer)
        place += 1 + count
    if len(parted) != how_many:
        raise AssertionError(f"{len(parted)} answers to {how_many} calls: {told}")
    return parted


def ask(*calls):
    """The answer to each of the calls on one new object."""
    told = answers([number for call in calls for number in call])
    if type(told) is not list or any(type(number) is not int for number in told):
        raise AssertionError(f"not a list of whole numbers: {told}")
    return split_answers(told, len(calls))


def last(*calls):
    """The answer to the last one of the calls."""
    return ask(*calls)[-1]


def shown_words(*calls):
    """The words' numbers of what's shown behind the calls (-1: by itself)."""
    return last(*calls, SHOWN)[4::4]


def text_in(answer):
    """The text that text or take answers, as a str."""
    if answer[0] != len(answer) - 1:
        raise AssertionError(f"a wrong count: {answer}")
    return "".join([chr(number) for number in answer[1:]])


def offer_in(answer):
    """What could answers, as (text, cost)."""
    if answer[0] != len(answer) - 2:
        raise AssertionError(f"a wrong count: {answer}")
    return ("".join([chr(number) for number in answer[2:]]), answer[1])


def pieces_in(answer):
    """The pieces that shown answers, as (place, sounds, word, chosen)."""
    if len(answer) != 2 + 4 * answer[0] or not 0 <= answer[1] < answer[0]:
        raise AssertionError(f"not what shown answers: {answer}")
    return [tuple(answer[begin:begin + 4]) for begin in range(2, len(answer), 4)]


def written(*calls):
    """The text of what's shown behind the calls."""
    return text_in(last(*calls, TEXT))


def pieces(*calls):
    """The pieces that are shown behind the calls."""
    return pieces_in(last(*calls, SHOWN))


def where(*calls):
    """The number of the piece where one is behind the calls."""
    return last(*calls, SHOWN)[1]


def offers(*calls):
    """All that could stand there behind the calls, in order."""
    found = []
    while True:
        answer = last(*calls, could(len(found)))
        if answer == [-5]:
            return found
        found.append(offer_in(answer))


def state(*calls):
    """All that can be seen of a turn: what's shown, its text, what could stand there."""
    return (ask(*calls, SHOWN, TEXT)[-2:], offers(*calls))


def one_each(reading):
    """What shown answers if each sound stands by itself."""
    answer = [len(reading), 0]
    for place in range(len(reading)):
        answer += [place, 1, -1, 0]
    return answer


def lexicon_text(lexicon):
    return "".join([f"{reading} {text} {left} {right} {cost}\n" for reading, text, left, right, cost in lexicon])


def joins_text(alone, table):
    return f"{alone}\n" + "".join([f"{right} {left} {cost}\n" for (right, left), cost in table.items()])


def all_ways(lexicon, reading, place=0):
    """Every way, as a row of (sounds, number of the word or -1)."""
    if place == len(reading):
        return [[]]
    ways = []
    steps = [(len(word[0]), number) for number, word in enumerate(lexicon) if reading.startswith(word[0], place)]
    for size, number in steps + [(1, -1)]:
        ways += [[(size, number)] + rest for rest in all_ways(lexicon, reading, place + size)]
    return ways


def way_cost(lexicon, alone, table, way, before=0):
    sort, cost = before, 0
    for size, number in way:
        left, right, own = lexicon[number][2:] if number >= 0 else (0, 0, alone)
        cost += table.get((sort, left), 0) + own
        sort = right
    return cost + table.get((sort, 0), 0)


def way_rank(lexicon, alone, table, way, before=0):
    order = [(-size, number == -1, number) for size, number in way]
    return (way_cost(lexicon, alone, table, way, before), order)


def keeps(way, cuts, choices):
    """The document's own words of a way that keeps what's settled."""
    numbers = {}
    place = 0
    for size, number in way:
        numbers[place] = number
        place += size
    for cut, kind in cuts.items():
        # Cuts are of places between two sounds: one at the reading's end counts nothing.
        if cut < place and kind == (2 if cut in numbers else 1):
            return False
    return all(numbers.get(at) == number for at, number in choices.items())


def in_order(lexicon):
    return sorted(lexicon, key=lambda word: (word[0], word[4], word[1]))


def slow_shown(lexicon, alone, table, reading):
    numbered = in_order(lexicon)
    ways = all_ways(numbered, reading)
    if len(ways) > 1024:
        return None
    first = min(ways, key=lambda way: way_rank(numbered, alone, table, way))
    answer = [len(first), 0]
    place = 0
    for size, number in first:
        answer += [place, size, number, 0]
        place += size
    return answer


class Slow:
    """One object, with right texts and readings alone: each call is answered from all ways, listed one by one."""

    def __init__(self):
        self.begin()

    def begin(self):
        self.lexicon, self.alone, self.table, self.reading = [], 65535, {}, ""
        return [0]

    def words(self, lexicon):
        self.lexicon, self.reading = in_order(lexicon), ""
        return [len(lexicon)]

    def joins(self, alone, table):
        self.alone, self.table, self.reading = alone, dict(table), ""
        return [len([cost for cost in table.values() if cost > 0])]

    def start(self, reading):
        ways = all_ways(self.lexicon, reading)
        if len(ways) > 1024:
            return [-6]
        self.reading, self.before, self.cuts, self.choices, self.place, self.ways = reading, 0, {}, {}, 0, ways
        return [0]

    def more(self, reading):
        if not self.reading:
            return [-4]
        ways = all_ways(self.lexicon, self.reading + reading)
        if len(ways) > 1024:
            return [-6]
        self.reading, self.ways = self.reading + reading, ways
        return [0]

    def kept(self, cuts, choices):
        """The ways that keep these, in order."""
        found = [way for way in self.ways if keeps(way, cuts, choices)]
        return sorted(found, key=lambda way: way_rank(self.lexicon, self.alone, self.table, way, self.before))

    def cost(self, way):
        return way_cost(self.lexicon, self.alone, self.table, way, self.before)

    def pieces(self):
        """What's shown, as (place, sounds, word)."""
        found = []
        place = 0
        for size, number in self.kept(self.cuts, self.choices)[0]:
            found.append((place, size, number))
            place += size
        return found

    def where(self):
        return [number for number, piece in enumerate(self.pieces()) if piece[0] <= self.place][-1]

    def here(self):
        """The first place and the sounds of where one is."""
        return self.pieces()[self.where()][:2]

    def sizes(self, place):
        """The lengths of the pieces that stand at a place."""
        return {1} | {len(word[0]) for word in self.lexicon if self.reading.startswith(word[0], place)}

    def piece_text(self, place, number):
        return self.reading[place] if number == -1 else self.lexicon[number][1]

    def written(self, found):
        text = "".join([self.piece_text(place, number) for place, size, number in found])
        return [len(text)] + numbers_of(text)

    def if_chosen(self, number):
        """What's settled if a piece is chosen where one is."""
        place, size = self.here()
        cuts = dict(self.cuts)
        if place > 0:
            cuts[place] = 1
        cuts[place + size] = 1
        choices = {at: word for at, word in self.choices.items() if not place <= at < place + size}
        choices[place] = number
        return cuts, choices

    def offers(self):
        """What could stand there, as (cost, text, number of the word or -1)."""
        place, size = self.here()
        numbers = [number for number, word in enumerate(self.lexicon) if word[0] == self.reading[place:place + size]]
        found = []
        for number in numbers + ([-1] if size == 1 else []):
            cost = self.cost(self.kept(*self.if_chosen(number))[0])
            found.append((cost, number == -1, number, self.piece_text(place, number)))
        told = {}
        for cost, by_itself, number, text in sorted(found):
            told.setdefault(text, (cost, text, number))
        return list(told.values())

    def shown(self):
        if not self.reading:
            return [-4]
        found = self.pieces()
        answer = [len(found), self.where()]
        for piece in found:
            answer += [*piece, 1 if piece[0] in self.choices else 0]
        return answer

    def text(self):
        return self.written(self.pieces()) if self.reading else [-4]

    def could(self, number):
        if not self.reading:
            return [-4]
        found = self.offers()
        if number >= len(found):
            return [-5]
        cost, text, word = found[number]
        return [len(text), cost] + numbers_of(text)

    def move(self, back):
        if back > 1:
            return [-1]
        if not self.reading:
            return [-4]
        found = self.pieces()
        number = self.where() + (1 - 2 * back)
        if number not in range(len(found)):
            return [-5]
        self.place = found[number][0]
        return [0]

    def width(self, narrower):
        if narrower > 1:
            return [-1]
        if not self.reading:
            return [-4]
        place, size = self.here()
        sizes = sorted(self.sizes(place))
        others = [other for other in sizes if other < size][-1:] if narrower else [o for o in sizes if o > size][:1]
        if not others:
            return [-5]
        self.cuts = {at: kind for at, kind in self.cuts.items() if at < place}
        self.cuts.update({at: 2 for at in range(place, place + others[0])})
        self.cuts.update({place: 1, place + others[0]: 1})
        self.cuts.pop(0, None)
        self.choices = {at: word for at, word in self.choices.items() if at < place}
        self.place = place
        return [0]

    def choose(self, number):
        if not self.reading:
            return [-4]
        found = self.offers()
        if number >= len(found):
            return [-5]
        place = self.here()[0]
        self.cuts, self.choices = self.if_chosen(found[number][2])
        self.place = place
        return [0]

    def take(self, count):
        if not self.reading:
            return [-4]
        found = self.pieces()
        if not 1 <= count <= len(found):
            return [-5]
        answer = self.written(found[:count])
        number = found[count - 1][2]
        gone = found[count - 1][0] + found[count - 1][1]
        self.reading = self.reading[gone:]
        self.ways = all_ways(self.lexicon, self.reading)
        self.before = 0 if number == -1 else self.lexicon[number][3]
        self.cuts = {at - gone: kind for at, kind in self.cuts.items() if at > gone}
        self.choices = {at - gone: word for at, word in self.choices.items() if at >= gone}
        self.place = max(self.place - gone, 0)
        return answer
