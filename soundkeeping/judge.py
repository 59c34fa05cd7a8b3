"""The judge of files: gone through in their order up to the first fault, and what's known by then."""

from soundkeeping.bits import Short, Wrong
from soundkeeping.files import ENTRY_SIZE, write_sum
from soundkeeping.frames import LONGEST, read_frame
from soundkeeping.heads import HEAD_SIZE, read_head
from soundkeeping.reading import Faulty, Reading
from soundkeeping.spares import write_piece
from soundkeeping.tags import read_tags

BAD_ENTRY = 7
BAD_INDEX_CHECK = 8
BAD_BODY = 9
BAD_END = 10
BYTES_BEHIND = 11
# How many bytes of a spare piece are there each time it's looked at before it's whole.
LOOKS = (2, 4, 5, 7)


# What's known of a file as far as it has been gone through.
class Hearing:
    def __init__(self, data):
        self.reading = Reading(data)
        self.head = None
        self.tags = []
        self.starts = []
        self.index_bytes = []
        self.frames_taken = 0
        self.numbers = []


def hear_file(data):
    return heard(data, [hear_head, hear_tags, hear_index, hear_body, hear_end])


# Looks at nothing behind the tags.
def hear_beginning(data):
    return heard(data, [hear_head, hear_tags])


# Looks at nothing behind the index; if all is right the reading stands where the first frame begins.
def hear_front(data):
    return heard(data, [hear_head, hear_tags, hear_index])


def heard(data, stages):
    hearing = Hearing(data)
    try:
        for stage in stages:
            stage(hearing)
    except Faulty:
        # The reading has kept the fault and its place.
        return hearing
    return hearing


def hear_head(hearing):
    hearing.head = read_head(hearing.reading)


def hear_tags(hearing):
    read_tags(hearing.reading, hearing.head.tags_size, hearing.tags)


def hear_index(hearing):
    reading = hearing.reading
    begin = reading.place
    for k in range(hearing.head.form.frame_count(hearing.head.samples)):
        place = reading.place
        start = reading.number(ENTRY_SIZE)
        right = start > hearing.starts[-1] if k > 0 else start == 0
        if not right:
            reading.stop_at(BAD_ENTRY, place)
        hearing.starts.append(start)
    reading.seal(begin, BAD_INDEX_CHECK)
    hearing.index_bytes = reading.data[begin:reading.place]


def hear_body(hearing):
    form = hearing.head.form
    reading = hearing.reading
    first = reading.place
    group = []
    for k, start in enumerate(hearing.starts):
        if reading.place != first + start:
            reading.stop_at(BAD_BODY, reading.place)
        group.append(hear_frame(hearing, k))
        if form.last_of_group(k, len(hearing.starts)):
            for j in range(form.spare):
                hear_piece(reading, write_piece(k // form.group, j, group))
            group = []


def hear_frame(hearing, k):
    form = hearing.head.form
    reading = hearing.reading
    begin = reading.place
    try:
        taken = read_frame(form, reading.data[begin:begin + LONGEST])
    except Wrong:
        reading.stop_at(BAD_BODY, begin)
    except Short:
        reading.end_too_soon()
    if taken.k != k or taken.n != form.frame_samples(k, hearing.head.samples):
        reading.stop_at(BAD_BODY, begin)
    hearing.frames_taken += 1
    hearing.numbers.extend(taken.numbers)
    return reading.take(taken.size)


def hear_piece(reading, piece):
    begin = reading.place
    for look in list(LOOKS) + [len(piece)]:
        reading.take(begin + look - reading.place)
        if reading.data[begin:begin + look] != piece[:look]:
            reading.stop_at(BAD_BODY, begin)


def hear_end(hearing):
    reading = hearing.reading
    recording_sum = write_sum(hearing.head.form.depth, hearing.numbers)
    for part in [hearing.index_bytes, reading.data[:HEAD_SIZE], recording_sum]:
        begin = reading.place
        if reading.take(len(part)) != part:
            reading.stop_at(BAD_END, begin)
    if reading.place < len(reading.data):
        reading.stop_at(BYTES_BEHIND, reading.place)
