"""The head of a file: its form, how long the recording is and how long the tags are."""

from soundkeeping.octets import sealed, to_octets

MARK = (0x53, 0x4B, 0x45, 0x45, 0x50, 0x01, 0x0D, 0x0A)
HEAD_SIZE = 26


def write_head(form, samples, tags_size):
    shape = [form.channels, form.depth] + to_octets(2, form.block) + [form.group, form.spare]
    return sealed(list(MARK) + shape + to_octets(4, samples) + to_octets(4, tags_size))
