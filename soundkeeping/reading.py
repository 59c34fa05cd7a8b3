"""Bytes gone through from the left, up to the first fault."""

from soundkeeping.octets import CRC32_SIZE, crc32, from_octets

ENDS_TOO_SOON = 1


# Something in the bytes can't be; the reading knows what and where.
class Faulty(Exception):
    pass


class Reading:
    def __init__(self, data):
        self.data = data
        self.place = 0
        self.fault = 0
        self.fault_place = len(data)

    def stop_at(self, fault, place):
        self.fault = fault
        self.fault_place = place
        raise Faulty()

    def end_too_soon(self):
        self.stop_at(ENDS_TOO_SOON, len(self.data))

    def take(self, count):
        begin = self.place
        if begin + count > len(self.data):
            self.end_too_soon()
        self.place = begin + count
        return self.data[begin:self.place]

    def number(self, count):
        return from_octets(self.take(count))

    # The CRC-32 of all from a place on.
    def seal(self, begin, fault):
        place = self.place
        if self.number(CRC32_SIZE) != crc32(self.data[begin:place]):
            self.stop_at(fault, place)
