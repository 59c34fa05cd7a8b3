"""A frame: its modes, its parts and its check, written the least and read item by item."""

from soundkeeping.bits import BitReader, BitWriter, Short, Wrong, crc16
from soundkeeping.forms import fits
from soundkeeping.parts import least_part, read_part, write_part

MARK = 0x4B57
# What a frame is read of at most.
LONGEST = 4096


class PairWay:
    def __init__(self, mode, parts):
        self.mode = mode
        self.parts = parts
        self.bits = sum([part.bits for part in parts])


# The first part of a pair, beside which the second one's numbers are judged.
class Partner:
    def __init__(self, mode, depth, numbers):
        self.mode = mode
        self.depth = depth
        self.numbers = numbers

    def judge(self, place, number):
        for one in joined_pair(self.mode, self.numbers[place], number):
            if not fits(self.depth, one):
                raise Wrong()


class FrameTaken:
    def __init__(self, size, k, n, numbers):
        self.size = size
        self.k = k
        self.n = n
        self.numbers = numbers


# Back from what goes in a mode to the pair itself. In mode 3 the last bit of s is the one
# that m lost when it was rounded.
def joined_pair(mode, x, y):
    if mode == 0:
        return (x, y)
    if mode == 1:
        return (x, x - y)
    if mode == 2:
        return (x + y, y)
    a = x + ((y + y % 2) >> 1)
    return (a, a - y)


def first_width(mode, depth):
    return depth + 1 if mode == 2 else depth


def second_width(mode, depth):
    return depth + 1 if mode == 1 or mode == 3 else depth


def least_pair(form, left, right):
    a = least_part(form.depth, form.order, left)
    b = least_part(form.depth, form.order, right)
    s = least_part(form.depth + 1, form.order, [x - y for x, y in zip(left, right)])
    m = least_part(form.depth, form.order, [(x + y) >> 1 for x, y in zip(left, right)])
    least = PairWay(0, [a, b])
    for way in [PairWay(1, [a, s]), PairWay(2, [s, b]), PairWay(3, [m, s])]:
        if way.bits < least.bits:
            least = way
    return least


def least_pairs(form, channels):
    return [least_pair(form, channels[c], channels[c + 1]) for c in range(0, form.channels - 1, 2)]


def write_frame(form, k, numbers):
    channels = [numbers[c::form.channels] for c in range(form.channels)]
    writer = BitWriter()
    writer.unsigned(16, MARK)
    writer.unsigned(20, k)
    writer.unsigned(8, len(channels[0]) - 1)
    pairs = least_pairs(form, channels)
    for pair in pairs:
        writer.unsigned(2, pair.mode)
    for pair in pairs:
        for part in pair.parts:
            write_part(writer, part)
    if form.channels % 2 == 1:
        write_part(writer, least_part(form.depth, form.order, channels[-1]))
    written = writer.whole_bytes()
    check = crc16(written)
    return written + [check >> 8, check & 255]


def read_frame(form, data):
    try:
        return read_items(form, BitReader(data[:LONGEST]))
    except Short:
        if len(data) >= LONGEST:
            raise Wrong() from None
        raise Short() from None


# The frame at the beginning of the bytes, if it's taken and one of a recording of so many samples; None else.
# A frame of a number that's too high would have no samples, so none has as many as it should have.
def recorded_frame(form, samples, data):
    try:
        taken = read_frame(form, data)
    except Wrong:
        return None
    except Short:
        return None
    return taken if taken.n == form.frame_samples(taken.k, samples) else None


def read_items(form, reader):
    if reader.unsigned(16) != MARK:
        raise Wrong()
    k = reader.unsigned(20)
    n = reader.unsigned(8) + 1
    if n > form.block:
        raise Wrong()
    channels = read_channels(form, n, reader)
    read_end(reader)
    numbers = []
    for t in range(n):
        numbers.extend([channel[t] for channel in channels])
    return FrameTaken(reader.place // 8, k, n, numbers)


def read_channels(form, n, reader):
    modes = [reader.unsigned(2) for pair in range(form.channels // 2)]
    channels = []
    for mode in modes:
        channels.extend(read_pair(form.depth, n, mode, reader))
    if form.channels % 2 == 1:
        channels.append(read_part(reader, n, form.depth, None))
    return channels


def read_pair(depth, n, mode, reader):
    first = read_part(reader, n, first_width(mode, depth), None)
    partner = Partner(mode, depth, first)
    second = read_part(reader, n, second_width(mode, depth), partner)
    pairs = [joined_pair(mode, x, y) for x, y in zip(first, second)]
    return [[pair[0] for pair in pairs], [pair[1] for pair in pairs]]


def read_end(reader):
    if reader.unsigned(-reader.place % 8) != 0:
        raise Wrong()
    check = crc16(reader.data[:reader.place // 8])
    if reader.unsigned(16) != check:
        raise Wrong()
