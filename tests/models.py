"""What the document says of ideal switches, steady sets and copies, in its own words, and pieces for them."""

import itertools
import random


def precedes(one, other):
    """Of two pieces (number, column, rank) for one column, whether the one precedes the other."""
    return one[2] < other[2] or (one[2] == other[2] and one[0] < other[0])


class IdealModel:
    """An ideal switch as one list of all pieces that were not sent."""

    def __init__(self, n):
        self.n = n
        self.came = 0
        self.beats = 0
        self.pieces = []
        self.sent = {}

    def come(self, row, column, rank):
        self.pieces.append((self.came, column, rank))
        self.came += 1
        return self.came - 1

    def first(self, column):
        for piece in self.pieces:
            others = [other for other in self.pieces if other[1] == column and other != piece]
            if piece[1] == column and all(precedes(piece, other) for other in others):
                return piece
        return None

    def beat(self):
        told = []
        for column in range(self.n):
            piece = self.first(column)
            told.append(piece and piece[0])
            if piece:
                self.pieces.remove(piece)
                self.sent[piece[0]] = self.beats
        self.beats += 1
        return told

    def waiting(self, column):
        rest = [piece for piece in self.pieces if piece[1] == column]
        told = []
        while rest:
            first = [one for one in rest if all(precedes(one, o) for o in rest if o != one)][0]
            rest.remove(first)
            told.append(first[0])
        return told

    def due(self, number):
        """The beat at which it was sent, or is sent by another switch that goes on without pieces."""
        other = IdealModel(self.n)
        other.beats, other.pieces, other.sent = self.beats, list(self.pieces), dict(self.sent)
        while number not in other.sent:
            other.beat()
        return other.sent[number]


def coming(n, chance, share=0.6, crowd=1, ranks=10):
    """Pieces for one beat, of each row one at most; with a crowd many are for low columns."""
    rows = [row for row in chance.sample(range(n), n) if chance.random() < share]
    columns = [min(chance.randrange(n) for _ in range(crowd)) for _ in rows]
    return [(row, column, chance.randrange(ranks)) for row, column in zip(rows, columns)]


def some_history(n, beats, seed, share=0.6, crowd=1, ranks=10):
    """A history that is the same at each call, of sixty pieces at most."""
    chance = random.Random(seed)
    told, many = [], 0
    for _ in range(beats):
        pieces = coming(n, chance, share, crowd, ranks)[:60 - many]
        many += len(pieces)
        told.append(pieces)
    return told


def pieces_of(history):
    return [piece for pieces in history for piece in pieces]


def sent_by_ideal(n, history, beats):
    """What an ideal switch sends at so many beats."""
    ideal = IdealModel(n)
    told = []
    for beat in range(beats):
        for piece in history[beat] if beat < len(history) else []:
            ideal.come(*piece)
        told.append(ideal.beat())
    return told


def some_rows(n, many, seed, ranks=3, odd_numbers=False):
    """Rows with so many pieces in all, some of them many in one row."""
    chance = random.Random(seed)
    numbers = chance.sample(range(2 * many), many)
    if odd_numbers:
        numbers = [10 ** 59 + number for number in numbers]
    rows = [[] for _ in range(n)]
    for number in numbers:
        rows[chance.randrange(n)].append((number, chance.randrange(n), chance.randrange(ranks)))
    return rows


def all_sets(rows):
    """Each set of rows: a rising list of numbers, no two of one row and no two for one column."""
    told = []
    for chosen in itertools.product(*[[None] + row for row in rows]):
        pieces = [piece for piece in chosen if piece]
        if len({piece[1] for piece in pieces}) == len(pieces):
            told.append(sorted(piece[0] for piece in pieces))
    return told


def outdone(rows, chosen, number):
    """Whether a piece of the set is in front of a piece in its row, or precedes it."""
    row = [line for line in rows if number in [piece[0] for piece in line]][0]
    place = [piece[0] for piece in row].index(number)
    if any(piece[0] in chosen for piece in row[:place]):
        return True
    others = [piece for line in rows for piece in line if piece[0] in chosen and piece[1] == row[place][1]]
    return any(precedes(other, row[place]) for other in others)


def not_outdone_ones(rows, chosen):
    numbers = [piece[0] for row in rows for piece in row if piece[0] not in chosen]
    return [number for number in numbers if not outdone(rows, chosen, number)]


def steady_sets(rows):
    """All steady sets of rows, found by trying all sets."""
    return [chosen for chosen in all_sets(rows) if not not_outdone_ones(rows, chosen)]


def rows_of(copy, n, pieces):
    """A copy's rows as rows of tuples, with what each piece is (row, column, rank) by its number."""
    return [[(number,) + pieces[number][1:] for number in copy.standing(row)] for row in range(n)]
