"""Spare pieces of a group of frames: made, read, and lost frames made anew of them."""

from soundkeeping.field import added, inverse, scaled, solved
from soundkeeping.frames import LONGEST
from soundkeeping.octets import CRC32_SIZE, crc32, from_octets, sealed, to_octets

MARK = 0x4B50
MOST_FRAMES = 8
MOST_PIECES = 4
# The bytes of a frame's length in its row.
LENGTH_SIZE = 2
SHORTEST_ROW = 3
LONGEST_ROW = 4098
# What's before a piece's row: the mark, g, j and the row's length.
FRONT_SIZE = 7
FIRST_DIVISOR = 128


# Rows that aren't frames, or pieces that aren't such.
class Unfit(Exception):
    pass


# No frames make these pieces with those that are there.
class Unmade(Exception):
    pass


class Piece:
    def __init__(self, g, j, row):
        self.g = g
        self.j = j
        self.row = row
        self.size = FRONT_SIZE + len(row) + CRC32_SIZE


# The frames of a list of rows. Where the least length is 0, one of that length is lost.
def read_rows(rows, least):
    frames = []
    place = 0
    while place < len(rows):
        begin = place + LENGTH_SIZE
        size = from_octets(rows[place:begin])
        place = begin + size
        if not least <= size <= LONGEST or place > len(rows):
            raise Unfit()
        frames.append(rows[begin:place])
    if not 1 <= len(frames) <= MOST_FRAMES:
        raise Unfit()
    return frames


def write_rows(frames):
    rows = []
    for one in frames:
        rows.extend(to_octets(LENGTH_SIZE, len(one)))
        rows.extend(one)
    return rows


def factor_of(i, j):
    return inverse(i ^ (FIRST_DIVISOR + j))


# A lost frame, of length 0, makes a row of bytes 0: it adds nothing.
def row_sum(j, row_size, frames):
    total = [0] * row_size
    for i, one in enumerate(frames):
        row = to_octets(LENGTH_SIZE, len(one)) + one + [0] * (row_size - LENGTH_SIZE - len(one))
        total = added(total, scaled(factor_of(i, j), row))
    return total


def longest_row(frames):
    return max([len(one) for one in frames]) + LENGTH_SIZE


def write_piece(g, j, frames):
    row_size = longest_row(frames)
    front = to_octets(2, MARK) + to_octets(2, g) + [j] + to_octets(2, row_size)
    return sealed(front + row_sum(j, row_size, frames))


# The piece that stands whole at a place, with a right check, whatever its group and j; None if there's none.
def piece_at(data, place):
    front = data[place:place + FRONT_SIZE]
    row_size = from_octets(front[5:])
    behind = place + FRONT_SIZE + row_size
    if from_octets(front[:2]) != MARK or not SHORTEST_ROW <= row_size <= LONGEST_ROW:
        return None
    if behind + CRC32_SIZE > len(data):
        return None
    if from_octets(data[behind:behind + CRC32_SIZE]) != crc32(data[place:behind]):
        return None
    return Piece(from_octets(front[2:4]), front[4], data[place + FRONT_SIZE:behind])


def read_pieces(g, data):
    pieces = []
    place = 0
    while place < len(data):
        piece = piece_at(data, place)
        if piece is None or piece.g != g or piece.j >= MOST_PIECES:
            raise Unfit()
        if not all([goes_with(piece, one) for one in pieces]):
            raise Unfit()
        pieces.append(piece)
        place += piece.size
    return pieces


def goes_with(piece, other):
    return piece.j != other.j and len(piece.row) == len(other.row)


# All frames, with the lost ones made of as many pieces as there are lost ones, all of one length of row.
# The factors of any pieces and frames can be solved: no two of the numbers i and 128 + j are the same.
def made_anew(frames, pieces):
    row_size = len(pieces[0].row)
    if longest_row(frames) > row_size:
        raise Unmade()
    lost = [i for i, one in enumerate(frames) if len(one) == 0]
    equations = []
    for piece in pieces:
        missing = added(piece.row, row_sum(piece.j, row_size, frames))
        equations.append([factor_of(i, piece.j) for i in lost] + missing)
    whole = list(frames)
    for i, row in zip(lost, solved(equations)):
        whole[i] = frame_of_row(row)
    return whole


# A row is at most LONGEST_ROW long, so what it holds is no longer than a frame may be.
def frame_of_row(row):
    behind = LENGTH_SIZE + from_octets(row[:LENGTH_SIZE])
    if not LENGTH_SIZE < behind <= len(row) or any(row[behind:]):
        raise Unmade()
    return row[LENGTH_SIZE:behind]
