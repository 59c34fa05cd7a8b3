"""A file written: head, tags, index, frames with their spare pieces, index and head once more, sum."""

from soundkeeping.frames import write_frame
from soundkeeping.heads import HEAD_SIZE, write_head
from soundkeeping.octets import CRC32_SIZE, crc32, sealed, to_octets
from soundkeeping.spares import write_piece

ENTRY_SIZE = 3


# The frames with their spare pieces, and where each frame begins among them.
class Body:
    def __init__(self):
        self.written = []
        self.starts = []

    def add_frame(self, one):
        self.starts.append(len(self.written))
        self.written.extend(one)

    def add_piece(self, piece):
        self.written.extend(piece)


def write_file(form, numbers, tags_part):
    head = write_head(form, len(numbers) // form.channels, len(tags_part))
    body = write_body(form, numbers)
    index = write_index(body.starts)
    return head + tags_part + index + body.written + index + head + write_sum(form.depth, numbers)


# A file that has no fault, with other tags: all else but the two heads stays as it was.
def with_tags(head, data, tags_part):
    new_head = write_head(head.form, head.samples, len(tags_part))
    recording_sum = data[-CRC32_SIZE:]
    between = data[HEAD_SIZE + head.tags_size:-HEAD_SIZE - CRC32_SIZE]
    return new_head + tags_part + between + new_head + recording_sum


def write_body(form, numbers):
    body = Body()
    step = form.block * form.channels
    frame_count = form.frame_count(len(numbers) // form.channels)
    group = []
    for k in range(frame_count):
        one = write_frame(form, k, numbers[k * step:(k + 1) * step])
        body.add_frame(one)
        group.append(one)
        if form.last_of_group(k, frame_count):
            for j in range(form.spare):
                body.add_piece(write_piece(k // form.group, j, group))
            group = []
    return body


def write_index(starts):
    entries = []
    for start in starts:
        entries.extend(to_octets(ENTRY_SIZE, start))
    return sealed(entries)


def write_sum(depth, numbers):
    return to_octets(CRC32_SIZE, crc32(plain_bytes(depth, numbers)))


# Here alone the lowest byte is the first.
def plain_bytes(depth, numbers):
    plain = []
    for number in numbers:
        plain.extend([(number >> shift) & 255 for shift in range(0, depth, 8)])
    return plain
