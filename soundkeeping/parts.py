"""A part, the numbers of one channel of a frame: the least way to write it, written and read."""

from soundkeeping.bits import Wrong
from soundkeeping.forms import fits
from soundkeeping.guesses import FACTOR_WIDTH, Guess, fixed_guess, linear_guess
from soundkeeping.rests import least_rests, read_rests, write_rests

SAME = 0
PLAIN_KIND = 1
FIRST_FIXED = 2
FIRST_LINEAR = 7
LAST_KIND = 10


# A part's numbers without the zeros that end them all.
class Shrunk:
    def __init__(self, width, numbers):
        self.z = shared_zeros(numbers)
        self.width = width - self.z
        self.numbers = [number >> self.z for number in numbers]


class PartWay:
    def __init__(self, kind, shrunk, guess):
        self.kind = kind
        self.shrunk = shrunk
        self.guess = guess
        self.rests_way = None
        self.bits = 1 + shrunk.z + 4


# A part as it's read. The partner, if there's one, judges each number beside its own.
class PartTaken:
    def __init__(self, width, z, partner):
        self.width = width - z
        self.z = z
        self.partner = partner
        self.guess = None
        self.taken = []

    def take(self, number):
        if not fits(self.width, number):
            raise Wrong()
        if self.partner is not None:
            self.partner.judge(len(self.taken), number << self.z)
        self.taken.append(number)

    def take_rest(self, rest):
        self.take(self.guess.at(self.taken, len(self.taken)) + rest)


def order_of_kind(kind):
    return kind - FIRST_FIXED if kind < FIRST_LINEAR else kind - FIRST_LINEAR + 1


# Always below the width: a number that fits and isn't 0 has a 1 among its bits.
def shared_zeros(numbers):
    together = 0
    for number in numbers:
        together |= number
    return max((together & -together).bit_length() - 1, 0)


def least_part(width, order, numbers):
    shrunk = Shrunk(width, numbers)
    if all([number == numbers[0] for number in numbers]):
        way = PartWay(SAME, shrunk, None)
        way.bits += shrunk.width
        return way
    least = plain_way(shrunk)
    for kind in range(FIRST_FIXED, FIRST_LINEAR + order):
        way = guessed_way(kind, shrunk)
        if way is not None and way.bits < least.bits:
            least = way
    return least


# The bits of kinds 1 to 10, 0 where a kind can't be.
def kind_bits(width, numbers):
    shrunk = Shrunk(width, numbers)
    bits = [plain_way(shrunk).bits]
    for kind in range(FIRST_FIXED, LAST_KIND + 1):
        way = guessed_way(kind, shrunk)
        bits.append(0 if way is None else way.bits)
    return bits


def plain_way(shrunk):
    way = PartWay(PLAIN_KIND, shrunk, None)
    way.bits += len(shrunk.numbers) * shrunk.width
    return way


def guessed_way(kind, shrunk):
    n = len(shrunk.numbers)
    order = order_of_kind(kind)
    guess = chosen_guess(kind, order, shrunk.numbers)
    if guess is None:
        return None
    way = PartWay(kind, shrunk, guess)
    way.rests_way = least_rests(n, order, guess.all_rests(shrunk.numbers))
    way.bits += order * shrunk.width + way.rests_way.bits
    if kind >= FIRST_LINEAR:
        way.bits += 4 + order * FACTOR_WIDTH
    return way


# A fixed guess may use up all numbers, a linear one has to have some left to fit.
def chosen_guess(kind, order, numbers):
    if kind < FIRST_LINEAR:
        return fixed_guess(order) if order <= len(numbers) else None
    return linear_guess(order, numbers) if order < len(numbers) else None


def write_part(writer, way):
    shrunk = way.shrunk
    write_zeros(writer, shrunk.z)
    writer.unsigned(4, way.kind)
    if way.kind == SAME:
        writer.signed(shrunk.width, shrunk.numbers[0])
    elif way.kind == PLAIN_KIND:
        write_plainly(writer, shrunk.width, shrunk.numbers)
    else:
        write_plainly(writer, shrunk.width, shrunk.numbers[:order_of_kind(way.kind)])
        if way.kind >= FIRST_LINEAR:
            writer.unsigned(4, way.guess.shift)
            write_plainly(writer, FACTOR_WIDTH, way.guess.factors)
        write_rests(writer, way.rests_way, way.guess.all_rests(shrunk.numbers))


def write_zeros(writer, z):
    if z == 0:
        writer.unsigned(1, 0)
    else:
        writer.unsigned(1, 1)
        writer.run(z - 1)


def write_plainly(writer, width, numbers):
    for number in numbers:
        writer.signed(width, number)


def read_part(reader, n, width, partner):
    part = PartTaken(width, read_zeros(reader, width), partner)
    kind = reader.unsigned(4)
    if kind > LAST_KIND:
        raise Wrong()
    if kind == SAME:
        number = reader.signed(part.width)
        for place in range(n):
            part.take(number)
    elif kind == PLAIN_KIND:
        read_plainly(reader, n, part)
    else:
        read_guessed(reader, n, kind, part)
    return [number << part.z for number in part.taken]


def read_zeros(reader, width):
    if reader.unsigned(1) == 0:
        return 0
    return reader.run(width - 2) + 1


def read_plainly(reader, count, part):
    for place in range(count):
        part.take(reader.signed(part.width))


def read_guessed(reader, n, kind, part):
    order = order_of_kind(kind)
    if order > n:
        raise Wrong()
    read_plainly(reader, order, part)
    if kind < FIRST_LINEAR:
        part.guess = fixed_guess(order)
    else:
        shift = reader.unsigned(4)
        part.guess = Guess([reader.signed(FACTOR_WIDTH) for place in range(order)], shift)
    read_rests(reader, n, order, part)
