"""Damaged bytes mended: frames and spare pieces searched for, and lost frames made anew."""

from soundkeeping.frames import LONGEST, recorded_frame
from soundkeeping.spares import Unmade, made_anew, piece_at

# With this byte every frame and every spare piece begins.
FIRST_BYTE = 0x4B


# What's found of a recording of so many samples: of each frame, by its number, the bytes and the numbers that
# they stand for; pieces by their group and j.
class Finds:
    def __init__(self, form, samples):
        self.form = form
        self.samples = samples
        self.frame_numbers = list(range(form.frame_count(samples)))
        self.frames = {}
        self.sounds = {}
        self.pieces = {}

    # Of two of the same number the first counts.
    def keep_frame(self, taken, written):
        self.frames.setdefault(taken.k, written)
        self.sounds.setdefault(taken.k, taken.numbers)

    def keep_piece(self, piece):
        self.pieces.setdefault((piece.g, piece.j), piece)


def mended(form, samples, data):
    finds = Finds(form, samples)
    search(finds, data)
    for g in range(form.group_count(samples)):
        mend_group(finds, g)
    return finds


def search(finds, data):
    place = 0
    while place < len(data):
        place += searched_size(finds, data, place)


# Keeps the frame or the piece that stands at a place, and tells how many bytes further the search goes on.
def searched_size(finds, data, place):
    if data[place] != FIRST_BYTE:
        return 1
    taken = recorded_frame(finds.form, finds.samples, data[place:place + LONGEST])
    if taken is not None:
        finds.keep_frame(taken, data[place:place + taken.size])
        return taken.size
    piece = piece_at(data, place)
    if piece is None or piece.g >= finds.form.group_count(finds.samples) or piece.j >= finds.form.spare:
        return 1
    finds.keep_piece(piece)
    return piece.size


def mend_group(finds, g):
    first = g * finds.form.group
    group = finds.frame_numbers[first:first + finds.form.group]
    lost = [k for k in group if k not in finds.frames]
    pieces = pieces_that_count(finds, g)
    if not 1 <= len(lost) <= len(pieces):
        return
    try:
        whole = made_anew([finds.frames.get(k, []) for k in group], pieces[:len(lost)])
    except Unmade:
        return
    for k in lost:
        keep_made(finds, k, whole[k - first])


# Those of a group, by j, that have the same length of row as the one of the least j.
def pieces_that_count(finds, g):
    keys = [(g, j) for j in range(finds.form.spare)]
    pieces = [finds.pieces[key] for key in keys if key in finds.pieces]
    return [piece for piece in pieces if len(piece.row) == len(pieces[0].row)]


def keep_made(finds, k, written):
    taken = recorded_frame(finds.form, finds.samples, written)
    if taken is not None and taken.k == k and taken.size == len(written):
        finds.keep_frame(taken, written)


# First sample and number of samples of each stretch; frames that were lost one behind another make one.
def lost_stretches(finds):
    stretches = []
    behind = -1
    for k in finds.frame_numbers:
        if k not in finds.frames:
            begin = k * finds.form.block
            n = finds.form.frame_samples(k, finds.samples)
            if begin == behind:
                stretches[-1][1] += n
            else:
                stretches.append([begin, n])
            behind = begin + n
    return stretches


def all_numbers(finds):
    numbers = []
    for k in finds.frame_numbers:
        lost = [0] * (finds.form.frame_samples(k, finds.samples) * finds.form.channels)
        numbers.extend(finds.sounds.get(k, lost))
    return numbers
