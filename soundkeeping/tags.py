"""Tags: keys and their values, told apart and written."""

from soundkeeping.octets import CRC32_SIZE, sealed, to_octets
from soundkeeping.reading import Faulty, Reading

BAD_TAGS = 5
BAD_TAGS_CHECK = 6
MOST_TAGS = 16
LONGEST_KEY = 32
# Bytes that say how many tags there are, and how long a value is.
COUNT_SIZE = 2
VALUE_LENGTH_SIZE = 2
LEAST_TAGS_SIZE = 6
MOST_TAGS_SIZE = 1024
EQUALS_SIGN = 61


class Tag:
    def __init__(self, key, value):
        self.key = key
        self.value = value


def can_be_key(key):
    return all([33 <= byte <= 126 and byte != EQUALS_SIGN for byte in key])


# Reads one more tag, which has to end at the place end or before, and puts it behind those before it.
def read_tag(reading, end, tags):
    begin = reading.place
    if begin == end:
        reading.stop_at(BAD_TAGS, begin)
    key_size = reading.number(1)
    if not 1 <= key_size <= LONGEST_KEY or reading.place + key_size + VALUE_LENGTH_SIZE > end:
        reading.stop_at(BAD_TAGS, begin)
    key = reading.take(key_size)
    if not can_be_key(key) or any([tag.key == key for tag in tags]):
        reading.stop_at(BAD_TAGS, begin)
    value_size = reading.number(VALUE_LENGTH_SIZE)
    if reading.place + value_size > end:
        reading.stop_at(BAD_TAGS, begin)
    tags.append(Tag(key, reading.take(value_size)))


# Reads the part of a file that holds the tags and puts them behind one another, so that those before
# a fault are known.
def read_tags(reading, size, tags):
    begin = reading.place
    end = begin + size - CRC32_SIZE
    count = reading.number(COUNT_SIZE)
    if count > MOST_TAGS:
        reading.stop_at(BAD_TAGS, begin)
    for step in range(count):
        read_tag(reading, end, tags)
    for place in range(reading.place, end):
        if reading.number(1) != 0:
            reading.stop_at(BAD_TAGS, place)
    reading.seal(begin, BAD_TAGS_CHECK)


# The tags one behind another.
def tag_bytes(tags):
    written = []
    for tag in tags:
        written.extend([len(tag.key)] + tag.key + to_octets(VALUE_LENGTH_SIZE, len(tag.value)) + tag.value)
    return written


# The part of a file that holds these tags, which stand one behind another.
def write_tags(pad, data):
    if COUNT_SIZE + len(data) + pad + CRC32_SIZE > MOST_TAGS_SIZE:
        raise Faulty()
    reading = Reading(data)
    tags = []
    while reading.place < len(data):
        read_tag(reading, len(data), tags)
    if len(tags) > MOST_TAGS:
        raise Faulty()
    return sealed(to_octets(COUNT_SIZE, len(tags)) + data + [0] * pad)
