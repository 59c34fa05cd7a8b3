"""Bits one behind another, in each byte from the highest: written and read."""


# The bytes end within an item.
class Short(Exception):
    pass


# An item, or what it tells, can't be.
class Wrong(Exception):
    pass


class BitWriter:
    def __init__(self):
        self.written = 0
        self.size = 0

    def unsigned(self, width, number):
        self.written = (self.written << width) | number
        self.size += width

    def signed(self, width, number):
        self.unsigned(width, number & ((1 << width) - 1))

    def run(self, zeros):
        self.unsigned(zeros + 1, 1)

    def whole_bytes(self):
        padding = -self.size % 8
        padded = self.written << padding
        return [(padded >> place) & 255 for place in range(self.size + padding - 8, -1, -8)]


class BitReader:
    def __init__(self, data):
        self.data = data
        self.place = 0

    def unsigned(self, width):
        behind = self.place + width
        if behind > 8 * len(self.data):
            raise Short()
        number = 0
        for byte in self.data[self.place // 8:(behind + 7) // 8]:
            number = (number << 8) | byte
        self.place = behind
        return (number >> (-behind % 8)) & ((1 << width) - 1)

    def signed(self, width):
        number = self.unsigned(width)
        # A width of 0 has no sign bit: the 1 is shifted out.
        sign = number & ((1 << width) >> 1)
        return number - 2 * sign

    # A run is wrong at its first bit too many, whether or not more bits are there.
    def run(self, most):
        zeros = 0
        while self.unsigned(1) == 0:
            zeros += 1
            if zeros > most:
                raise Wrong()
        return zeros


def crc16(data):
    check = 0xFFFF
    for byte in data:
        check ^= byte << 8
        for step in range(8):
            check <<= 1
            if check > 0xFFFF:
                check ^= 0x11021
    return check
