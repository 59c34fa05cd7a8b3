"""Frames made and looked at by hand, and what the document's words make of numbers, the slow way.

Nothing here uses the program: bits are texts of 0 and 1, fractions are exact, every way is tried.
"""

import binascii
import functools
import zlib
from fractions import Fraction

FORM = [1, 16, 256, 4, 4, 2]


def flat(lists):
    return [item for one in lists for item in one]


def u(width, number):
    assert 0 <= number < 2 ** width
    return bin(number + 2 ** width)[3:]


def s(width, number):
    assert width == 0 and number == 0 or -(2 ** (width - 1)) <= number < 2 ** (width - 1)
    return u(width, number % 2 ** width)


def run(zeros):
    return "0" * zeros + "1"


def head(k, n):
    return u(16, 0x4B57) + u(20, k) + u(8, n - 1)


def padded(bits):
    return bits + "0" * (-len(bits) % 8)


def to_bytes(bits):
    bits = padded(bits)
    return [int(bits[i:i + 8], 2) for i in range(0, len(bits), 8)]


def closed(bits):
    """The bytes of a frame of these bits: zeros up to a byte, and the check."""
    data = to_bytes(bits)
    check = binascii.crc_hqx(bytes(data), 0xFFFF)
    return data + [check >> 8, check & 255]


def zeros_bits(z):
    return "0" if z == 0 else "1" + run(z - 1)


def fold(e):
    return 2 * e if e >= 0 else -2 * e - 1


def rest_bits(g, v, e):
    if g == 31:
        return s(v, e)
    return run(fold(e) >> g) + u(g, fold(e) % 2 ** g)


def group_bits(g, v, rests):
    return u(5, g) + (u(6, v) if g == 31 else "") + "".join(rest_bits(g, v, e) for e in rests)


def rests_bits(n, p, r, ways, rests):
    """ways: of each group its (g, v)."""
    text = u(3, r)
    for (g, v), part in zip(ways, split(n, p, r, rests), strict=True):
        text += group_bits(g, v, part)
    return text


def split(n, p, r, rests):
    size = n // 2 ** r
    groups = [rests[:size - p]]
    while len(groups) < 2 ** r:
        done = len(groups) * size - p
        groups.append(rests[done:done + size])
    assert sum(len(group) for group in groups) == len(rests) == n - p
    return groups


def same(w, number, z=0):
    return zeros_bits(z) + u(4, 0) + s(w - z, number // 2 ** z)


def plain(w, numbers, z=0):
    return zeros_bits(z) + u(4, 1) + "".join(s(w - z, y // 2 ** z) for y in numbers)


COEFFICIENTS = {0: [], 1: [1], 2: [2, -1], 3: [3, -3, 1], 4: [4, -6, 4, -1]}


def rests_of(factors, h, ys):
    p = len(factors)
    return [ys[t] - sum(a * ys[t - 1 - i] for i, a in enumerate(factors)) // 2 ** h for t in range(p, len(ys))]


def first_bits(w, ys, p):
    return "".join(s(w, y) for y in ys[:p])


def fixed(w, p, numbers, r=0, ways=((0, 0),), z=0):
    ys = [y // 2 ** z for y in numbers]
    rests = rests_of(COEFFICIENTS[p], 0, ys)
    return zeros_bits(z) + u(4, 2 + p) + first_bits(w - z, ys, p) + rests_bits(len(ys), p, r, ways, rests)


def linear(w, h, factors, numbers, r=0, ways=((0, 0),), z=0):
    ys = [y // 2 ** z for y in numbers]
    p = len(factors)
    text = zeros_bits(z) + u(4, 6 + p) + first_bits(w - z, ys, p) + u(4, h) + "".join(s(12, a) for a in factors)
    return text + rests_bits(len(ys), p, r, ways, rests_of(factors, h, ys))


def long_frame(k, size):
    """Sixteen numbers of 24 bits, and a frame of so many bytes for them: its first rest has a run as long as it takes."""
    q = 8 * (size - 2) - (44 + 1 + 4 + 3 + 5) - 16
    e = q // 2 if q % 2 == 0 else -(q + 1) // 2
    return [e] + [0] * 15, closed(head(k, 16) + fixed(24, 0, [e] + [0] * 15))


# What the document says of the least, word by word.

def shared_zeros(w, numbers):
    if not any(numbers):
        return 0
    z = 0
    while z < w - 1 and all(y % 2 ** (z + 1) == 0 for y in numbers):
        z += 1
    return z


def rank_and_answer(rows):
    """Gauss with fractions, pivots looked for: the only answer of the equations, or None."""
    rows = [[Fraction(x) for x in row] for row in rows]
    p = len(rows)
    for c in range(p):
        at = next((i for i in range(c, p) if rows[i][c] != 0), None)
        if at is None:
            return None
        rows[c], rows[at] = rows[at], rows[c]
        rows[c] = [x / rows[c][c] for x in rows[c]]
        for i in range(p):
            if i != c:
                rows[i] = [x - rows[i][c] * y for x, y in zip(rows[i], rows[c])]
    return [row[p] for row in rows]


def best_factors(p, ys):
    ts = range(p, len(ys))
    rows = [[sum(ys[t - i] * ys[t - j] for t in ts) for j in list(range(1, p + 1)) + [0]] for i in range(1, p + 1)]
    return rank_and_answer(rows)


def rounded(fraction):
    whole = int(abs(fraction) + Fraction(1, 2))
    return whole if fraction >= 0 else -whole


def shift_and_factors(p, ys):
    exact = best_factors(p, ys)
    if exact is None:
        return None
    for h in range(15, -1, -1):
        factors = [rounded(a * 2 ** h) for a in exact]
        if all(-2048 <= a <= 2047 for a in factors):
            return h, factors
    return None


def least_v(rests):
    v = 0
    while not all(e == 0 if v == 0 else -(2 ** (v - 1)) <= e < 2 ** (v - 1) for e in rests):
        v += 1
    return v


def group_size(g, v, rests):
    if g == 31:
        return 5 + 6 + v * len(rests)
    return 5 + sum((fold(e) >> g) + 1 + g for e in rests)


def best_group(rests):
    v = least_v(rests)
    sizes = [group_size(g, v, rests) for g in range(32)]
    g = sizes.index(min(sizes))
    return sizes[g], g, v, sizes


def best_rests(n, p, rests):
    """Bits, r, the groups' (g, v); then, for the tests, all that was weighed against it."""
    found = []
    for r in range(7):
        if n % 2 ** r == 0 and n // 2 ** r >= p:
            groups = [best_group(group) for group in split(n, p, r, rests)]
            found.append((3 + sum(group[0] for group in groups), r, [(g, v) for bits, g, v, sizes in groups], groups))
    return min(found, key=lambda way: (way[0], way[1])), found


def ways_of_part(w, numbers):
    """For each kind from 1 to 10 its bits as a text, and its choices; None where it can't be."""
    z = shared_zeros(w, numbers)
    ys = [y // 2 ** z for y in numbers]
    n = len(ys)
    ways = {1: plain(w, numbers, z)}
    for p in range(5):
        ways[2 + p] = None
        if p <= n:
            best = best_rests(n, p, rests_of(COEFFICIENTS[p], 0, ys))[0]
            ways[2 + p] = fixed(w, p, numbers, best[1], best[2], z)
    for p in range(1, 5):
        ways[6 + p] = None
        found = shift_and_factors(p, ys) if p < n else None
        if found is not None:
            h, factors = found
            best = best_rests(n, p, rests_of(factors, h, ys))[0]
            ways[6 + p] = linear(w, h, factors, numbers, best[1], best[2], z)
    return ways


def least_part(w, order, numbers):
    if len(set(numbers)) == 1:
        return same(w, numbers[0], shared_zeros(w, numbers))
    ways = ways_of_part(w, numbers)
    texts = [ways[kind] for kind in range(1, 7 + order) if ways[kind] is not None]
    return min(texts, key=len)


def pair_texts(depth, order, a, b):
    parts = {
        "a": least_part(depth, order, a),
        "b": least_part(depth, order, b),
        "s": least_part(depth + 1, order, [x - y for x, y in zip(a, b)]),
        "m": least_part(depth, order, [(x + y) // 2 for x, y in zip(a, b)]),
    }
    return [parts[names[0]] + parts[names[1]] for names in ("ab", "as", "sb", "ms")]


def least_frame(k, form, numbers):
    channels, depth, block, order, group, spare = form
    rows = [numbers[c::channels] for c in range(channels)]
    modes, text = "", ""
    for c in range(0, channels - 1, 2):
        texts = pair_texts(depth, order, rows[c], rows[c + 1])
        sizes = [len(one) for one in texts]
        mode = sizes.index(min(sizes))
        modes += u(2, mode)
        text += texts[mode]
    if channels % 2:
        text += least_part(depth, order, rows[-1])
    return closed(head(k, len(rows[0])) + modes + text)


class Look:
    """A frame that's right, looked through for what its writer chose."""

    def __init__(self, form, data):
        self.bits = "".join(u(8, byte) for byte in data)
        self.at = 0
        self.parts = []
        assert self.u(16) == 0x4B57
        self.k = self.u(20)
        self.n = self.u(8) + 1
        self.modes = [self.u(2) for pair in range(form[0] // 2)]
        widths = []
        for mode in self.modes:
            widths += [form[1] + (mode == 2), form[1] + (mode in (1, 3))]
        for w in (widths + [form[1]])[:form[0]]:
            self.parts.append(self.part(w))

    def u(self, width):
        self.at += width
        return int("0" + self.bits[self.at - width:self.at], 2)

    def run(self):
        before = self.at
        self.at = self.bits.index("1", before) + 1
        return self.at - before - 1

    def part(self, w):
        begin = self.at
        z = self.run() + 1 if self.u(1) else 0
        kind = self.u(4)
        found = {"z": z, "kind": kind, "h": None, "factors": [], "r": None, "ways": []}
        p = 0 if kind < 2 else kind - 2 if kind < 7 else kind - 6
        for number in range({0: 1, 1: self.n}.get(kind, p)):
            self.u(w - z)
        if kind >= 7:
            found["h"] = self.u(4)
            found["factors"] = [(self.u(12) + 2048) % 4096 - 2048 for factor in range(p)]
        if kind >= 2:
            self.rests(found, p)
        found["bits"] = self.at - begin
        return found

    def rests(self, found, p):
        found["r"] = self.u(3)
        size = self.n // 2 ** found["r"]
        for group in range(2 ** found["r"]):
            g = self.u(5)
            v = self.u(6) if g == 31 else None
            found["ways"].append((g, v))
            for rest in range(size - (p if group == 0 else 0)):
                if g == 31:
                    self.u(v)
                else:
                    self.run()
                    self.u(g)


# Spare pieces, place by place.

def number(count, value):
    return list(value.to_bytes(count, "big"))


def crc(data):
    return number(4, zlib.crc32(bytes(data)))


def times(a, b):
    """The product of two polynomials, and what's left of it over x^8 + x^4 + x^3 + x^2 + 1."""
    product = 0
    for bit in range(8):
        product ^= (b >> bit & 1) * a << bit
    for bit in range(15, 7, -1):
        product ^= (product >> bit & 1) * 0b100011101 << bit - 8
    return product


# For each divisor that there is, what times it makes each byte.
OVER = {divisor: {times(divisor, byte): byte for byte in range(256)} for divisor in range(128, 136)}


def rows_of(frames):
    """Frames with their lengths before them; a lost one is an empty one."""
    return [byte for one in frames for byte in number(2, len(one)) + one]


def piece_of(g, j, r, row):
    data = [0x4B, 0x50] + number(2, g) + [j] + number(2, r) + row
    return data + crc(data)


def piece_of_rows(g, j, rows):
    """A piece of rows that are all as long, whatever they hold."""
    row = []
    for place in range(len(rows[0])):
        total = 0
        for i, one in enumerate(rows):
            total ^= OVER[i ^ 128 + j][one[place]]
        row.append(total)
    return piece_of(g, j, len(row), row)


def full_rows(frames, r=None):
    r = r or max(len(one) for one in frames) + 2
    return [(number(2, len(one)) + one + [0] * r)[:r] for one in frames]


def piece(g, j, frames):
    return piece_of_rows(g, j, full_rows(frames))


def some_bytes(rnd, count):
    return [rnd.choice([0, 255, rnd.randrange(256)]) for byte in range(count)]


def some_frames(rnd, count, most=40):
    return [some_bytes(rnd, rnd.choice([1, 2, most, rnd.randint(1, most)])) for one in range(count)]


# Files, part by part.

def tag(key, value=()):
    return [len(key)] + [ord(sign) for sign in key] + number(2, len(value)) + list(value)


def tags_part(tags, pad=0, count=None):
    """tags: a list of single ones."""
    data = number(2, len(tags) if count is None else count) + [byte for one in tags for byte in one] + [0] * pad
    return data + crc(data)


def head_of(form, samples, size):
    channels, depth, block, order, group, spare = form
    data = [0x53, 0x4B, 0x45, 0x45, 0x50, 0x01, 0x0D, 0x0A, channels, depth] + number(2, block) + [group, spare]
    data += number(4, samples) + number(4, size)
    return data + crc(data)


def index_of(starts):
    data = [byte for start in starts for byte in number(3, start)]
    return data + crc(data)


def sum_of(depth, numbers):
    count = 1 if depth <= 8 else 2 if depth <= 16 else 3
    return crc([byte for one in numbers for byte in one.to_bytes(count, "little", signed=True)])


def frames_of(form, numbers, writer=least_frame):
    size = form[0] * form[2]
    return [writer(k, form, numbers[k * size:k * size + size]) for k in range(-(-len(numbers) // size))]


class Made:
    """A file in its parts, by name, each of which a test may change by itself."""

    def __init__(self, form, numbers, tags=(), pad=0, writer=least_frame):
        part = tags_part(tags, pad)
        self.parts = {"head": head_of(form, len(numbers) // form[0], len(part)), "tags": part, "index": []}
        starts = self.add_body(form, frames_of(form, numbers, writer))
        self.parts["index"] = self.parts["index again"] = index_of(starts)
        self.parts["head again"] = self.parts["head"]
        self.parts["sum"] = sum_of(form[1], numbers)

    def add_body(self, form, frames):
        starts, at = [], 0
        for k, one in enumerate(frames):
            g = k // form[4]
            starts.append(at)
            self.parts[f"frame {k}"] = one
            at += len(one)
            if k % form[4] == form[4] - 1 or k == len(frames) - 1:
                for j in range(form[5]):
                    self.parts[f"piece {g} {j}"] = piece(g, j, frames[g * form[4]:k + 1])
                    at += len(self.parts[f"piece {g} {j}"])
        return starts

    def data(self):
        return flat(self.parts.values())

    def place(self, name):
        names = list(self.parts)
        return sum(len(self.parts[before]) for before in names[:names.index(name)])

    def changed(self, name, part):
        """The bytes with another part in the place of one."""
        return flat(part if one == name else self.parts[one] for one in self.parts)


def file_of(form, numbers, tags=(), pad=0, writer=least_frame):
    return Made(form, numbers, tags, pad, writer).data()


# The judge, told look by look: how many bytes have to be there, whether it's right, the fault, its place.

def judged(data, unframe):
    """Fault and place, and what's known by then: the head's numbers, tags, frames, numbers."""
    known = {"head": [], "tags": [], "frames": 0, "numbers": []}
    for needed, right, fault, place in all_looks(data, known, unframe):
        if needed > len(data):
            return [1, len(data)], known
        if not right:
            return [fault, place], known
    return [0, len(data)], known


def heard(data, unframe):
    """What hear answers."""
    told, known = judged(data, unframe)
    head = [1] + known["head"] if known["head"] else [0]
    return told + head + [len(known["tags"]), known["frames"], len(known["numbers"])] + known["numbers"]


def value(data):
    return int.from_bytes(bytes(data), "big")


def all_looks(data, known, unframe):
    yield from head_looks(data, known)
    channels, depth, block, group, spare, samples, size = known["head"]
    yield from tag_looks(data, 26 + size - 4, known)
    begin, count = 26 + size, -(-samples // block)
    first = begin + 3 * count + 4
    starts = []
    for at in range(begin, first - 4, 3):
        starts.append(value(data[at:at + 3]))
        yield at + 3, starts[-1] > starts[-2] if len(starts) > 1 else starts[-1] == 0, 7, at
    yield first, data[first - 4:first] == crc(data[begin:first - 4]), 8, first - 4
    at, frames = first, []
    for k, start in enumerate(starts):
        yield at, at == first + start, 9, at
        answer = unframe([channels, depth, block, 0, group, spare], data[at:])
        yield len(data) + 1 if answer == [-2] else at, answer != [-3], 9, at
        yield at, answer[1:3] == [k, min(block, samples - k * block)], 9, at
        frames.append(data[at:at + answer[0]])
        known["frames"] += 1
        known["numbers"] += answer[3:]
        at += answer[0]
        if len(frames) == group or k == count - 1:
            for j in range(spare):
                want = piece(k // group, j, frames)
                for seen in (2, 4, 5, 7, len(want)):
                    yield at + seen, data[at:at + seen] == want[:seen], 9, at
                at += len(want)
            frames = []
    for part in (data[begin:first], data[:26], sum_of(depth, known["numbers"])):
        yield at + len(part), data[at:at + len(part)] == part, 10, at
        at += len(part)
    yield at, len(data) == at, 11, at


def head_looks(data, known):
    yield 8, bytes(data[:8]) == b"SKEEP\x01\r\n", 2, 0
    fields, at = [], 8
    for width in (1, 1, 2, 1, 1, 4, 4):
        fields.append(value(data[at:at + width]))
        at += width
    ranges = ((1, 4), (4, 24), (16, 256), (1, 8), (0, 4), (0, 2048 // max(1, fields[0])), (6, 1024))
    yield 22, all(least <= field <= most for field, (least, most) in zip(fields, ranges)), 3, 8
    yield 26, data[22:26] == crc(data[:22]), 4, 22
    known["head"] = fields


def tag_looks(data, end, known):
    yield 28, value(data[26:28]) <= 16, 5, 26
    at = 28
    for count in range(value(data[26:28])):
        yield at, at < end, 5, at
        size = value(data[at:at + 1])
        yield at + 1, 1 <= size <= 32 and at + 1 + size + 2 <= end, 5, at
        key = data[at + 1:at + 1 + size]
        fresh = all(key != other for other, content in known["tags"])
        yield at + 1 + size, fresh and all(33 <= byte <= 126 and byte != ord("=") for byte in key), 5, at
        begin = at + 1 + size + 2
        behind = begin + value(data[begin - 2:begin])
        yield begin, behind <= end, 5, at
        yield behind, True, None, None
        known["tags"].append((key, data[begin:behind]))
        at = behind
    for place in range(at, end):
        yield place + 1, data[place:place + 1] == [0], 5, place
    yield end + 4, data[end:end + 4] == crc(data[26:end]), 6, end


def front_of(data, unframe):
    """How many bytes head, tags and index have, and what's known of them; None if they have a fault."""
    told, known = judged(data[:26], unframe)
    if not known["head"]:
        return None
    channels, depth, block, group, spare, samples, size = known["head"]
    end = 26 + size + 3 * -(-samples // block) + 4
    told, known = judged(data[:end], unframe)
    return (end, known) if told == [1, end] else None


def samples_told(begin, n, data, unframe):
    """What read answers, sample by sample."""
    if n > 2048:
        return [-1]
    front = front_of(data, unframe)
    if front is None:
        return [-2]
    channels, depth, block, group, spare, samples, size = front[1]["head"]
    if begin + n > samples:
        return [-3]
    frames, numbers = {}, []
    for t in range(begin, begin + n):
        k = t // block
        if k not in frames:
            at = front[0] + value(data[26 + size + 3 * k:26 + size + 3 * k + 3])
            frames[k] = unframe([channels, depth, block, 0, group, spare], data[at:])
            if frames[k][1:3] != [k, min(block, samples - k * block)]:
                return [-9]
        numbers += frames[k][3:][t % block * channels:t % block * channels + channels]
    return [channels, len(numbers)] + numbers


def as_it_should_be(n, form, answer):
    """Whether what unframe answered is one of the frames of a recording of n samples."""
    return len(answer) > 1 and answer[1] < -(-n // form[2]) and answer[2] == min(form[2], n - answer[1] * form[2])


def piece_there(n, form, data):
    """The bytes of the spare piece of such a recording that stands at the beginning; None if there's none."""
    r = value(data[5:7])
    one = data[:7 + r + 4]
    right = data[:2] == [0x4B, 0x50] and len(one) == 7 + r + 4 and 3 <= r <= 4098 and one[-4:] == crc(one[:-4])
    return one if right and value(one[2:4]) * form[4] * form[2] < n and one[4] < form[5] else None


def searched(n, form, data, unframe):
    """The frames by number and the pieces by group and j that mend finds, place by place."""
    frames, pieces, at = {}, {}, 0
    while at < len(data):
        answer = unframe(form, data[at:])
        one = piece_there(n, form, data[at:])
        if as_it_should_be(n, form, answer):
            frames.setdefault(answer[1], data[at:at + answer[0]])
            at += answer[0]
        elif one is not None:
            pieces.setdefault((value(one[2:4]), one[4]), one)
            at += len(one)
        else:
            at += 1
    return frames, pieces


def lost_made(n, form, frames, pieces, unframe, anew):
    """The lost frames that come back, by number."""
    found = {}
    for first in range(0, -(-n // form[2]), form[4]):
        ks = range(first, min(first + form[4], -(-n // form[2])))
        own = [one for (g, j), one in sorted(pieces.items()) if g == first // form[4]]
        own = [one for one in own if one[5:7] == own[0][5:7]]
        answer = anew(first // form[4], rows_of([frames.get(k, []) for k in ks]), flat(own))
        at = 1
        for k in ks if len(answer) > 1 else []:
            one = answer[at + 2:at + 2 + value(answer[at:at + 2])]
            at += 2 + len(one)
            again = unframe(form, one)
            if k not in frames and as_it_should_be(n, form, again) and again[:2] == [len(one), k]:
                found[k] = one
    return found


def mended(n, form, data, unframe, anew):
    """What mend answers, sample by sample."""
    frames, pieces = searched(n, form, data, unframe)
    frames.update(lost_made(n, form, frames, pieces, unframe, anew))
    numbers, lost = [], []
    for t in range(n):
        k = t // form[2]
        if k in frames:
            numbers += unframe(form, frames[k])[3:][t % form[2] * form[0]:t % form[2] * form[0] + form[0]]
        else:
            numbers += [0] * form[0]
            lost.append(t)
    begins = [t for t in lost if t - 1 not in lost]
    ends = [t for t in lost if t + 1 not in lost]
    stretches = flat([begin, end - begin + 1] for begin, end in zip(begins, ends))
    return [n - len(lost), len(begins)] + stretches + [len(numbers)] + numbers


def plain_frame(k, form, numbers):
    """A frame that's taken but isn't the least: each channel by itself, number by number."""
    rows = [numbers[c::form[0]] for c in range(form[0])]
    return closed(head(k, len(rows[0])) + "00" * (form[0] // 2) + "".join(plain(form[1], one) for one in rows))


@functools.lru_cache(maxsize=None)
def kept_frame(k, form, numbers):
    return tuple(least_frame(k, list(form), list(numbers)))


def small_frame(k, form, numbers):
    """The least frame, for small ones that are asked for again and again."""
    return list(kept_frame(k, tuple(form), tuple(numbers)))


# What several tests hand in.

FILE_FORM = [1, 8, 16, 4, 2, 2]
FILE_NUMBERS = [t * t % 31 - 9 for t in range(77)]
FILE_TAGS = [tag("one", [1, 2, 3]), tag("two"), tag("three", [0, 255])]


def made(form=FILE_FORM, numbers=FILE_NUMBERS, tags=FILE_TAGS, pad=0):
    """A small file: of five frames in three groups, with two spare pieces each, if nothing else is asked for."""
    return Made(form, numbers, tags, pad, small_frame)


def turned(data, place, by=1):
    """The bytes with bits of one turned over."""
    return data[:place] + [data[place] ^ by] + data[place + 1:]


def faulty_heads():
    """The small file with another head: each of its bytes turned over, and each reason by itself with a right check."""
    one = made()
    size, samples = len(one.parts["tags"]), len(FILE_NUMBERS)
    heads = [turned(one.parts["head"], place, by) for place in range(26) for by in (1, 128)]
    for place, bads in ((0, (0, 5)), (1, (3, 25)), (2, (15, 257)), (4, (0, 9)), (5, (5, 255))):
        heads += [head_of(FILE_FORM[:place] + [bad] + FILE_FORM[place + 1:], samples, size) for bad in bads]
    heads += [head_of([channels] + FILE_FORM[1:], count, size)
              for channels, count in ((1, 2049), (2, 1025), (3, 683), (4, 513), (1, 2 ** 32 - 1))]
    heads += [head_of(FILE_FORM, samples, bad) for bad in (0, 5, 1025, 2 ** 32 - 1)]
    return [one.changed("head", head) for head in heads]


def faulty_tags():
    """The small file with other tags: each of their bytes turned over, and each reason by itself with a right check."""
    one = made(pad=3)
    files = [turned(one.data(), place, 128) for place in range(26, one.place("index"))]
    for part in (
        tags_part(FILE_TAGS, 0, 4),
        tags_part(FILE_TAGS, 9, 4),
        tags_part(FILE_TAGS, 0, 2),
        tags_part(FILE_TAGS, 0, 17),
        tags_part([tag("k" + sign) for sign in "abcdefghijklmnopq"]),
        tags_part([tag("")]),
        tags_part([tag("k" * 33)]),
        tags_part([tag("one"), tag("one", [2])]),
        tags_part([tag("a=b")]),
        tags_part([tag(" ")]),
        tags_part([[1, 127, 0, 0]]),
        tags_part([[3, 97, 98]], 0, 1),
        tags_part([[1, 97, 0, 9]]),
        tags_part([tag("one"), [0, 0, 1]], 0, 1),
    ):
        head = head_of(FILE_FORM, len(FILE_NUMBERS), len(part))
        files.append(flat({**one.parts, "head": head, "tags": part, "head again": head}.values()))
    return files


def faulty_indexes():
    """The small file with another index: each of its bytes turned over, and entries that can't be with a right check."""
    one = made()
    index = one.parts["index"]
    starts = [value(index[at:at + 3]) for at in range(0, len(index) - 4, 3)]
    indexes = [turned(index, place, by) for place in range(len(index)) for by in (1, 128)]
    indexes += [index_of(bad) for bad in (
        [1] + starts[1:], [start + 1 for start in starts], [0, 0] + starts[2:], starts[:2] + [starts[1]] + starts[3:],
        starts[:2] + [starts[1] - 1] + starts[3:], starts[:4] + [0], starts[:4] + [starts[3]],
    )]
    return [one.changed("index", bad) for bad in indexes]


# Tags that can't be, as they're handed in, each for one reason.
NO_TAGS = [flat(tag("k" + sign) for sign in "abcdefghijklmnopq"), tag(""), tag("k" * 33), tag("b") + tag("") + tag("c"),
           tag("a") + tag("a"), tag("a", [1]) + tag("b") + tag("a", [2]), tag("a=b"), tag(" "), [1, 127, 0, 0],
           [1, 255, 0, 0], [1, 0, 0, 0], [0], [1], [1, 97], [1, 97, 0], [1, 97, 0, 1], [1, 97, 0, 2, 7], [3, 97, 98, 0, 0],
           tag("a", [7]) + [0], tag("a", [7, 8])[:-1], tag("a", [7] * 1015), tag("a") + tag("b", [7] * 2000)]

NO_FORMS = [[], [1], [1, 16, 16, 0, 1], [1, 16, 16, 0, 1, 0, 0], [1, 16, 16, 0, 1, 0, 0, 0]]
NO_FORMS += [[1, 16, 16, 0, 1, 0][:i] + [bad] + [1, 16, 16, 0, 1, 0][i + 1:] for i, bads in enumerate((
    (0, 5, 4294967295), (3, 25, 4294967295), (15, 257, 4294967295), (5, 4294967295), (0, 9, 4294967295), (5, 4294967295),
)) for bad in bads]
EDGE_FORMS = [[c, d, b, o, g, e] for c in (1, 4) for d in (4, 24) for b in (16, 256) for o in (0, 4)
              for g, e in ((1, 0), (8, 4))]


def mono(depth, order=4, block=256):
    return [1, depth, block, order, 1, 0]


def stereo(depth, order=4):
    return [2, depth, 256, order, 1, 0]


def clipped(depth, numbers):
    half = 2 ** (depth - 1)
    return [max(-half, min(half - 1, number)) for number in numbers]


def row(rnd, depth, n):
    """n numbers of one channel, of one of several sorts of sound and noise."""
    half = 2 ** (depth - 1)
    a = 2 ** rnd.randrange(depth)
    sort = rnd.randrange(9)
    if sort == 0:
        numbers = [rnd.randint(-half, half - 1) for t in range(n)]
    elif sort == 1:
        numbers = [rnd.randint(-a, a) for t in range(n)]
    elif sort == 2:
        numbers = [rnd.randint(-a, a)] * n
    elif sort == 3:
        z = rnd.randrange(depth)
        numbers = [rnd.randint(-half >> z, half - 1 >> z) << z for t in range(n)]
    elif sort == 4:
        numbers = [rnd.choice([-half, half - 1, 0, -1, 1]) for t in range(n)]
    elif sort == 5:
        numbers = [rnd.choice([0, 0, 0, rnd.randint(-a, a)]) if t < n // 2 else 0 for t in range(n)]
    elif sort == 6:
        numbers = [0]
        while len(numbers) < n:
            numbers.append(numbers[-1] + rnd.randint(-a, a))
    elif sort == 7:
        numbers = [t * t * rnd.randint(1, 3) // 7 + t * a for t in range(n)]
    else:
        numbers = [rnd.randint(-a, a) for t in range(4)]
        factors = [rnd.randint(-150, 150) for t in range(4)]
        while len(numbers) < n:
            guess = sum(f * y for f, y in zip(factors, numbers[:-5:-1])) // 100 + rnd.randint(-2, 2)
            numbers += clipped(depth, [guess])
    return clipped(depth, numbers[:n])


def near(rnd, depth, numbers):
    sign = rnd.choice([1, 1, -1])
    return clipped(depth, [sign * y + rnd.randint(-2, 2) for y in numbers])


def sound(rnd, form, n):
    """n samples for the form, channels now and then like one another."""
    rows = [row(rnd, form[1], n)]
    while len(rows) < form[0]:
        rows.append(near(rnd, form[1], rows[-1]) if rnd.random() < 0.6 else row(rnd, form[1], n))
    return [rows[c][t] for t in range(n) for c in range(form[0])]


def some_form(rnd, n):
    return [rnd.randint(1, 4), rnd.randint(4, 24), rnd.randint(max(16, n), 256), rnd.randint(0, 4),
            rnd.randint(1, 8), rnd.randint(0, 4)]


def woven(*rows):
    return [number for sample in zip(*rows, strict=True) for number in sample]


def some_tags(rnd, most=16):
    """Tags of keys that differ, as single ones, short enough to have room together."""
    tags = []
    for place in range(rnd.choice([0, 1, 2, 3, rnd.randint(0, most)])):
        key = "k" * rnd.randint(0, 3) + "abcdefghijklmnop"[place] + rnd.choice(["", "!", "~", "<>"])
        tags.append(tag(key, some_bytes(rnd, rnd.choice([0, 0, 1, 5, rnd.randint(0, 40)]))))
    return tags


# What holds of every call.

class Held(list):
    """A list that nobody may change, not for a while either."""

    def refuse(self, *arguments):
        raise AssertionError("a list that was handed in was changed")

    append = extend = insert = pop = remove = clear = sort = reverse = refuse
    __setitem__ = __delitem__ = __iadd__ = __imul__ = refuse


def by_itself(test, call, between, arguments):
    """Lists that are handed in are unchanged; the answer is a list of whole numbers, of its own, and the same again,
    whatever was asked between and whatever became of an earlier answer."""
    answer = call(*[Held(one) if isinstance(one, list) else one for one in arguments])
    test.assertIs(type(answer), list)
    test.assertTrue(all(type(one) is int for one in answer))
    kept = [list(one) if isinstance(one, list) else one for one in arguments]
    test.assertEqual(call(*arguments), answer)
    call(*between)
    again = call(*arguments)
    test.assertEqual(again, answer)
    again.append(0)
    test.assertEqual(call(*arguments), answer)
    test.assertEqual(arguments, kept)
