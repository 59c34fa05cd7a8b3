"""Bytes: numbers of several of them, the highest first, and CRC-32."""

# How the lowest four bits of the check change it: two steps a byte take the place of eight.
CRC32_STEPS = (
    0x00000000, 0x1DB71064, 0x3B6E20C8, 0x26D930AC, 0x76DC4190, 0x6B6B51F4, 0x4DB26158, 0x5005713C,
    0xEDB88320, 0xF00F9344, 0xD6D6A3E8, 0xCB61B38C, 0x9B64C2B0, 0x86D3D2D4, 0xA00AE278, 0xBDBDF21C,
)
CRC32_SIZE = 4


def to_octets(count, number):
    return [(number >> shift) & 255 for shift in range(8 * count - 8, -1, -8)]


def from_octets(data):
    number = 0
    for byte in data:
        number = (number << 8) | byte
    return number


def crc32(data):
    check = 0xFFFFFFFF
    for byte in data:
        check ^= byte
        check = (check >> 4) ^ CRC32_STEPS[check & 15]
        check = (check >> 4) ^ CRC32_STEPS[check & 15]
    return check ^ 0xFFFFFFFF


def sealed(data):
    return data + to_octets(CRC32_SIZE, crc32(data))
