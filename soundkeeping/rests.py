"""The rests of a part: how they are grouped and written the least, written and read."""

from soundkeeping.bits import Wrong

GREATEST_SPLIT = 6
PLAIN = 31
GREATEST_PLAIN_WIDTH = 40
# One less than 2^40, which a folded rest has to be below.
GREATEST_FOLDED = 1099511627775


# A group of rests, from place first to the one before last, with its g and, if that's PLAIN, its v.
class GroupWay:
    def __init__(self, first, last, g, v, bits):
        self.first = first
        self.last = last
        self.g = g
        self.v = v
        self.bits = bits


class RestsWay:
    def __init__(self, r, groups):
        self.r = r
        self.groups = groups
        self.bits = 3 + sum([group.bits for group in groups])


def folded_rest(rest):
    return 2 * rest if rest >= 0 else -2 * rest - 1


def unfolded_rest(folded):
    return folded >> 1 if folded % 2 == 0 else -(folded >> 1) - 1


def can_split(n, order, r):
    size = n >> r
    return r <= GREATEST_SPLIT and size << r == n and size >= order


# Some way can always be: with widths up to 25 and factors of 12 bits a guess is at most 2^37 away
# from 0, so every folded rest is below 2^39. The limits of 2^40 and of 40 bits bear on reading alone.
def least_rests(n, order, rests):
    folded = [folded_rest(rest) for rest in rests]
    sums = shifted_sums(folded)
    least = None
    for r in range(GREATEST_SPLIT + 1):
        if can_split(n, order, r):
            way = RestsWay(r, split_groups(n, order, r, folded, sums))
            if least is None or way.bits < least.bits:
                least = way
    return least


# For each g worth a look, the sum of the runs of the first t rests at place t: so the bits of
# every group are told by a difference. Once no run is left a greater g only adds bits.
def shifted_sums(folded):
    greatest = max(folded, default=0).bit_length()
    return [running_sums(folded, g) for g in range(min(PLAIN, greatest + 1))]


def running_sums(folded, g):
    total = 0
    sums = [0]
    for number in folded:
        total += number >> g
        sums.append(total)
    return sums


def split_groups(n, order, r, folded, sums):
    size = n >> r
    groups = []
    first = 0
    for last in range(size - order, n - order + 1, size):
        groups.append(least_group(first, last, folded, sums))
        first = last
    return groups


def least_group(first, last, folded, sums):
    count = last - first
    # A rest fits in v bits just where its folded form is below 2^v.
    v = max(folded[first:last], default=0).bit_length()
    g = PLAIN
    bits = 11 + count * v
    # From the greatest g down, so that of equals the lower one stays.
    for lower in range(len(sums) - 1, -1, -1):
        lower_bits = 5 + count * (lower + 1) + sums[lower][last] - sums[lower][first]
        if lower_bits <= bits:
            g = lower
            bits = lower_bits
    return GroupWay(first, last, g, v, bits)


def write_rests(writer, way, rests):
    writer.unsigned(3, way.r)
    for group in way.groups:
        writer.unsigned(5, group.g)
        if group.g == PLAIN:
            writer.unsigned(6, group.v)
        for rest in rests[group.first:group.last]:
            write_rest(writer, group, rest)


def write_rest(writer, group, rest):
    if group.g == PLAIN:
        writer.signed(group.v, rest)
        return
    folded = folded_rest(rest)
    run = folded >> group.g
    writer.run(run)
    writer.unsigned(group.g, folded - (run << group.g))


# Each rest goes to the part as soon as it's whole, as the part judges the number that it makes.
def read_rests(reader, n, order, part):
    r = reader.unsigned(3)
    if not can_split(n, order, r):
        raise Wrong()
    size = n >> r
    count = size - order
    for group in range(1 << r):
        read_group(reader, count, part)
        count = size


def read_group(reader, count, part):
    g = reader.unsigned(5)
    if g == PLAIN:
        read_plain(reader, count, part)
        return
    for place in range(count):
        run = reader.run(GREATEST_FOLDED >> g)
        part.take_rest(unfolded_rest((run << g) + reader.unsigned(g)))


def read_plain(reader, count, part):
    v = reader.unsigned(6)
    if v > GREATEST_PLAIN_WIDTH:
        raise Wrong()
    for place in range(count):
        part.take_rest(reader.signed(v))
