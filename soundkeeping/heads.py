"""The head of a file: its form, how long the recording is and how long the tags are."""

from soundkeeping.forms import MOST_NUMBERS, Form, is_form
from soundkeeping.octets import from_octets, sealed, to_octets
from soundkeeping.tags import LEAST_TAGS_SIZE, MOST_TAGS_SIZE

MARK = (0x53, 0x4B, 0x45, 0x45, 0x50, 0x01, 0x0D, 0x0A)
HEAD_SIZE = 26
# A file doesn't keep its order; frames are read the same with any, and one written anew takes the greatest.
ORDER = 4
BAD_MARK = 2
BAD_SHAPE = 3
BAD_HEAD_CHECK = 4


class Head:
    def __init__(self, form, samples, tags_size):
        self.form = form
        self.samples = samples
        self.tags_size = tags_size


def write_head(form, samples, tags_size):
    shape = [form.channels, form.depth] + to_octets(2, form.block) + [form.group, form.spare]
    return sealed(list(MARK) + shape + to_octets(4, samples) + to_octets(4, tags_size))


def read_head(reading):
    if reading.take(len(MARK)) != list(MARK):
        reading.stop_at(BAD_MARK, 0)
    place = reading.place
    head = head_told(reading.take(14))
    if head is None:
        reading.stop_at(BAD_SHAPE, place)
    reading.seal(0, BAD_HEAD_CHECK)
    return head


# None where no file can have such a head.
def head_told(data):
    form = [data[0], data[1], from_octets(data[2:4]), ORDER, data[4], data[5]]
    samples = from_octets(data[6:10])
    tags_size = from_octets(data[10:])
    if not is_form(form) or samples * form[0] > MOST_NUMBERS:
        return None
    if not LEAST_TAGS_SIZE <= tags_size <= MOST_TAGS_SIZE:
        return None
    return Head(Form(form), samples, tags_size)
